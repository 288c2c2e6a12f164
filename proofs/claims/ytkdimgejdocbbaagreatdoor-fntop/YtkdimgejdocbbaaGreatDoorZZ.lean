import Derived.Test.YtkdimgejdocbbaaGreatDoorZY
import Derived.Deep.DeepCutAuto
set_option maxRecDepth 100000
set_option maxHeartbeats 8000000
open Go.Addr renaming mk->J
open Go.Value renaming slice->Z,string->U,int->Q,bool->QA
open Option renaming none->Y,some->N
open Go.Obj renaming cells->T
open Go.IntKind renaming i64->I
open Go renaming World->E,Value->QB
open Bool renaming false->D
open Go.Ending renaming returned->QD
namespace Go.Proofs.YtkdimgejdocbbaaGreatDoor.Vp
open RowKit
theorem eQ {t:ByteArray}{n:Int}(b:t.size<=5000){M:List I3}(hM:∀ i∈M,i.2.1.length<=5000):∀ i∈(1,t.data.toList,n) :: M,i.2.1.length<=5000:=by
 intro i hi;rcases BC.1 hi with rfl | hi
 ·show t.data.toList.length<=5000
  rw[LE];exact b
 ·exact hM i hi
structure VS (w:E)(R:Nat)(W:E)(q g c:Nat)(L:List I3)(n:Nat):Prop where
 rd:Rd W R q
 o:Only R w W
 ir:IR W w.heap.size g c L
 tx:∀ i∈L,i.2.1.length<=5000
 lo:R<w.heap.size
 le:L.length<=n
section
variable {w W W':E}{R q q' g c g' c' n:Nat}{L M:List I3}
theorem VS.only (h:VS w R W q g c L n)(b:Only R W W')(hR:Rd W' R q'):VS w R W' q' g c L n:=⟨hR,h.o.trans b,h.ir.only b h.lo,h.tx,h.lo,h.le⟩
theorem VS.below (h:VS w R W q g c L n)(b:Below W.heap.size W W'):VS w R W' q g c L n:=h.only (Only.of_below b) (h.rd.below b lr)
theorem VS.low (h:VS w R W q g c L n)(b:Below w.heap.size W W')(d:IR W' w.heap.size g' c' M)(hM:∀ i∈M,i.2.1.length<=5000):VS w R W' q g' c' M M.length:=⟨h.rd.low b h.lo,h.o.then b,d,hM,h.lo,j6 _⟩
theorem VS.join (h:VS w R W q g c L n)(b:IR W' w.heap.size g' c' (L++M))(d:W.grownBy W' (N g))(hM:∀ i∈M,i.2.1.length<=5000):VS w R W' q g' c' (L++M) (L++M).length :=
 h.low (bg (eI w.heap.size W) d h.o.size (fun k e=>by have:=h.ir.lt;simp at e;omega)) b fun i hi=>by
  rcases kS.1 hi with hi | hi
  ·exact h.tx i hi
  ·exact hM i hi
theorem VS.fin {m QM QL:Nat}(h:VS w R W q g c L n)(d:m=L.length)(b:L≠[])(f:L.length<=QL)(i:q<=QM):DI w R QM QL (QD (Z (N (J g 0 Y)) m c)) W :=
 ⟨L,g,c,by rw[d],h.ir,b,f,h.tx,q,i,h.rd,h.o⟩
end
section
variable {ops:Array Oper}{rest:List Oper}{o:Oper}{a:Act}{QM:Exit->Act->E->Prop}{w W W':E}{R q g c n:Nat}{L M:List I3}(hgd:o.guard=Y)(s x:Operand)(ho:o.op=.call { callee:=.builtin .append,args:=#[s,x],argTypes:=#[29,29] })(C:VS w R W q g c L n)
include hgd ho C
theorem od (A:Below W.heap.size W W')(p:Addr)(m d:Nat)(y:a.eval s=Z (N (J g 0 Y)) L.length c)(B:a.eval x=Z (N p) m d)(n:m=M.length)(r:M≠[])(k:∀ j u,(i3L M)[j]?=N u->W'.cell? (p.add j)=N u)(hM:∀ i∈M,i.2.1.length<=5000)(hlen:L.length+m<=100000)
  (h:∀ g' c' b f,Hid (VS w R f q g' c' b b.length)->b.length<=L.length+m->L.length+m<=b.length->wpList Tryz.prog ops QM rest (a.put o.dst (Z (N (J g' 0 Y)) b.length c')) f):wpList Tryz.prog ops QM (o :: rest) a W':=by
 have l:=C.below A;refine gA hgd s x ho w.heap.size g c L y l.ir p m d M B n r k (by omega) l.o.size ?_;intro g' c' f t z;exact h g' c' (L++M) f (l.join t z hM) (by rw[cM,n];exact j6 _) (by rw[cM,n];exact j6 _)
theorem ga (M:List I3)(m:Nat){f:Array QB}(n:a.eval s=Z (N (J g 0 Y)) L.length c)(r:a.eval x=Z (N (J W.heap.size 0 Y)) m m)(l:f.toList=i3L M)(p:m=M.length)(j:M≠[])(hM:∀ i∈M,i.2.1.length<=5000)(d:L.length+m<=100000)
  (h:∀ g' c' b k,Hid (VS w R k q g' c' b b.length)->b.length<=L.length+m->L.length+m<=b.length->wpList Tryz.prog ops QM rest (a.put o.dst (Z (N (J g' 0 Y)) b.length c')) k):wpList Tryz.prog ops QM (o :: rest) a (W.alloc (T f 188)) :=
 od hgd s x ho C (br.alloc lr _) _ m m n r p j (l ▸ fQ W f _) hM d h
end
theorem pO (r:Int)(QL nc B QK:Nat)(hd3:r<=11)(hd0:0<=r)(hb:QL<=44)(hB4:4<=B)(hC14:14<=QK)(ex:0<r->3*QL+2<=B/\3*nc+14<=QK/\4<=QL)(W:0<r->∀ (R p:Nat) (at_:Int) (w:E),Rd w R p->p+nc<=30000->0<=at_->at_+(QL:Int)<=10000->Calls Tryz.prog 206 #[.pointer (N (J R 0 Y)),Q I at_,Q I (r - 1)] w fun e w'=>DI w R (p+nc) QL e w')
  (R p:Nat) (at_:Int) (w:E) (hR:Rd w R p) (hp:p+QK<=30000) (ha0:0<=at_) (ha1:at_+(B:Int)<=10000) :
  Calls Tryz.prog 206 #[.pointer (N (J R 0 Y)),Q I at_,Q I r] w fun e w'=>DI w R (p+QK) B e w':=by
 have S:=ae W;have A0:=(Qs w).alloc lr (T #[] 188);have C:Hid (VS w R (w.alloc (T #[] 188)) p w.heap.size 0 [] 0):=⟨hR.below A0 lr,Only.of_below A0,IR.lit w,fun i hi=>(by cases hi),hR.lt,j6 _⟩
 clear A0 hR W;go_enter Tryz.func206,Tryz.ntmps206;go_wp2_with fail;generalize w.alloc (T #[] 188)=W0 at C ⊢;refine(aD R _ 12 _ C.rd (by omega) (by omega) (by omega)).mono ?_;rintro e j ⟨z,rfl,z0,z1,hR,b⟩;replace C:=ae (C.only b hR);clear b hR;go_upto_region 3 with fail;go_cut [19] (fun sb wx=>∃ H:Bool,sb=QA H/\(H=true->6<z)/\(H=D->6<z->0<r)/\Hid (VS w R wx (p+1) w.heap.size 0 [] 0));case first =>
  by_cases h2:r<=0
  ·by_cases h3:6<z
   ·go_wp2
    go_meet;exact⟨true,rfl,fun _=>h3,(fun h=>by cases h),C.out⟩
   ·go_wp2
    go_meet;exact⟨D,rfl,(fun h=>by cases h),fun _ h=>absurd h (by omega),C⟩
  ·go_wp2
   go_meet;exact⟨D,rfl,(fun h=>by cases h),fun _ _=>by omega,C.out⟩
 case rest =>
 clear C;obtain⟨H,rfl,X,QG,C⟩:=hcut;go_upto_if 19 with fail;go_cut [7,8] (fun so sk wx=>∃ (g c q:Nat) (L:List I3) (k:Int),so=Z (N (J g 0 Y)) L.length c/\sk=Q I k/\0<=k/\k<12/\(6<k->0<r)/\q<=p+1/\Hid (VS w R wx q g c L 0));case first =>
  cases H with
  | true =>
   have h2:=X rfl;have G:IntKind.i64.wrap (z - 6)=z - 6:=by rw[vF];omega
   go_wp2;go_meet;exact⟨_,_,_,[],_,rfl,rfl,by omega,by omega,fun h=>by omega,j6 _,C⟩
  | false =>have QH:=ae (QG rfl);go_wp2;go_meet;exact⟨_,_,_,[],_,rfl,rfl,by omega,by omega,QH,j6 _,C⟩
 case rest =>
 clear C;obtain⟨g,c,q,L,k,rfl,rfl,hk0,hk1,bt,hq,C⟩:=hcut;have hL0:=C.le;rcases(show(k=0∨k=1)∨(k=2∨k=3∨k=4∨k=6)∨k=5∨(k=7∨k=8∨k=9∨k=10)∨k=11 by omega) with QO | QO | rfl | QO | rfl
 ·rcases QO with rfl | rfl
  all_goals
   go_wp2_with fail;refine(fZ R _ _ C.rd (by omega)).mono ?_;rintro e j ⟨t,rfl,ht,q2,aq,hR,b⟩;replace C:=ae (C.only b hR);clear b hR;go_wp2_with fail;first | (with_reducible refine(bn _ _).mono ?_) | (with_reducible refine(bK _ _ _).mono ?_) | (with_reducible refine(bB _ _).mono ?_)
   rintro e j ⟨rfl,f⟩;replace C:=ae (C.below f);clear f;go_wp2_with (at_builtin;refine ga rfl _ _ rfl C [(1,t.data.toList,0)] 1 (by simp[Act.eval]) (by simp[Act.eval]) rfl rfl (by simp) (eQ (by omega) (by decide)) (by omega) ?_);intro QJ c1 o V C QM u1;go_wp2;go_ret;exact C.fin rfl (IH.1 (by omega)) (by omega) (by omega)
 ·rcases QO with rfl | rfl | rfl | rfl
  all_goals
   go_wp2_with fail;refine(fx R _ _ C.rd (by omega)).mono ?_;rintro e j ⟨t,rfl,ht,hR,b⟩;replace C:=ae (C.only b hR);clear b hR
   iterate 2
    go_wp2_with fail;first | (with_reducible refine(bn _ _).mono ?_) | (with_reducible refine(bK _ _ _).mono ?_) | (with_reducible refine(bB _ _).mono ?_)
    rintro e j ⟨rfl,f⟩;replace C:=ae (C.below f);clear f
   go_wp2_with (at_builtin;first | (refine ga rfl _ _ rfl C [(1,t.data.toList,0),(12,[],0)] 2 (by simp[Act.eval]) (by simp[Act.eval]) rfl rfl (by simp) (eQ (by omega) (by decide)) (by omega) ?_) | (refine ga rfl _ _ rfl C [(1,t.data.toList,0),(13,[],0)] 2 (by simp[Act.eval]) (by simp[Act.eval]) rfl rfl (by simp) (eQ (by omega) (by decide)) (by omega) ?_));intro QJ c1 o V C QM u1;go_wp2;go_ret;exact C.fin rfl (IH.1 (by omega)) (by omega) (by omega)
 ·skip
  go_wp2_with fail;refine(fx R _ _ C.rd (by omega)).mono ?_;rintro e j ⟨t,rfl,ht,hR,b⟩;replace C:=ae (C.only b hR);clear b hR
  iterate 2
   go_wp2_with fail;first | (with_reducible refine(bn _ _).mono ?_) | (with_reducible refine(bK _ _ _).mono ?_) | (with_reducible refine(bB _ _).mono ?_)
   rintro e j ⟨rfl,f⟩;replace C:=ae (C.below f);clear f
  go_wp2_with fail;refine(aD R _ 3 _ C.rd (by omega) (by omega) (by omega)).mono ?_;rintro e j ⟨y,rfl,y0,y1,hR,b⟩;replace C:=ae (C.only b hR);clear b hR
  iterate 2
   go_wp2_with fail;first | (with_reducible refine(bn _ _).mono ?_) | (with_reducible refine(bK _ _ _).mono ?_) | (with_reducible refine(bB _ _).mono ?_)
   rintro e j ⟨rfl,f⟩;replace C:=ae (C.below f);clear f
  go_wp2_with (at_builtin;refine ga rfl _ _ rfl C [(1,t.data.toList,0),(12,[],0),(5,[],y),(12,[],0)] 4 (by simp[Act.eval]) (by simp[Act.eval]) rfl rfl (by simp) (eQ (by omega) (by intro i hi;simp only[BC,nj,or_false] at hi;rcases hi with rfl | rfl | rfl<;>exact CS _)) (by omega) ?_);intro QJ c1 o V C QM u1;go_wp2;go_ret;exact C.fin rfl (IH.1 (by omega)) (by omega) (by omega)
 ·have s:=bt (by omega)
  obtain⟨X,QG,QH⟩:=ex s;rcases QO with rfl | rfl | rfl | rfl;all_goals
   go_wp2_with fail;refine(S s R _ at_ _ C.rd (by omega) (by omega) (by omega)).mono ?_;rintro e j ⟨M,QQ,A,rfl,hM,d,K,l,q1,hq1,hR,b⟩;replace C:=ae (C.only b hR);have QN:=ae hM.news;have m:=ae l;have n:=ae d;have P:=IH.2 d;clear b hR hM l d;go_wp2_with (at_builtin;refine od rfl _ _ rfl C br (J QQ 0 Y) M.length A (by simp[Act.eval]) (by simp[Act.eval]) rfl n QN m (by omega) ?_);intro QJ c1 o V C QM u1;clear QN m n
  ·skip
   go_wp2_with fail;refine(S s R _ (at_+(o.length:Int)) _ C.rd (by omega) (by omega) (by omega)).mono ?_;rintro e j ⟨M,QQ,A,rfl,hM,d,K,l,q2,aq,hR,b⟩;replace C:=ae (C.only b hR);have QN:=ae hM.news;have m:=ae l;have n:=ae d;have P:=IH.2 d;clear b hR hM l d;go_wp2_with (at_builtin;refine od rfl _ _ rfl C br (J QQ 0 Y) M.length A (by simp[Act.eval]) (by simp[Act.eval]) rfl n QN m (by omega) ?_);intro g2 c2 L2 W2 C l2 u2;clear QN m n;go_wp2_with fail;refine(aD R _ 2 _ C.rd (by omega) (by omega) (by omega)).mono ?_;rintro e j ⟨y,rfl,y0,y1,hR,b⟩;replace C:=ae (C.only b hR);clear b hR;go_wp2_with fail;first | (with_reducible refine(bn _ _).mono ?_) | (with_reducible refine(bK _ _ _).mono ?_) | (with_reducible refine(bB _ _).mono ?_)
   rintro e j ⟨rfl,f⟩;replace C:=ae (C.below f);clear f;go_wp2_with (at_builtin;refine ga rfl _ _ rfl C [((2+4*y),[],0)] 1 (by simp[Act.eval]) (by simp[Act.eval]) rfl rfl (by simp) (fun i hi=>by rw[j3.1 hi];exact CS _) (by omega) ?_);intro g3 c3 QP W3 C l3 u3;go_wp2;go_ret;exact C.fin rfl (IH.1 (by omega)) (by omega) (by omega)
  ·skip
   go_wp2_with fail;refine(aD R _ 3 _ C.rd (by omega) (by omega) (by omega)).mono ?_;rintro e j ⟨x,rfl,x0,x1,hR,b⟩;replace C:=ae (C.only b hR);clear b hR;go_wp2_with fail;refine(aD R _ 4 _ C.rd (by omega) (by omega) (by omega)).mono ?_;rintro e j ⟨y,rfl,y0,y1,hR,b⟩;replace C:=ae (C.only b hR);clear b hR;go_wp2_with fail;first | (with_reducible refine(bn _ _).mono ?_) | (with_reducible refine(bK _ _ _).mono ?_) | (with_reducible refine(bB _ _).mono ?_)
   rintro e j ⟨rfl,f⟩;replace C:=ae (C.below f);clear f;go_wp2_with (at_builtin;refine ga rfl _ _ rfl C [((3+x),[],y)] 1 (by simp[Act.eval]) (by simp[Act.eval]) rfl rfl (by simp) (fun i hi=>by rw[j3.1 hi];exact CS _) (by omega) ?_);intro g2 c2 L2 W2 C l2 u2;go_wp2;go_ret;exact C.fin rfl (IH.1 (by omega)) (by omega) (by omega)
  all_goals
   go_wp2_with fail;first | (with_reducible refine(bn _ _).mono ?_) | (with_reducible refine(bK _ _ _).mono ?_) | (with_reducible refine(bB _ _).mono ?_)
   rintro e j ⟨rfl,f⟩;replace C:=ae (C.below f);clear f;go_wp2_with (at_builtin;refine ga rfl _ _ rfl C [(11,[],0)] 1 (by simp[Act.eval]) (by simp[Act.eval]) rfl rfl (by simp) (fun i hi=>by rw[j3.1 hi];exact CS _) (by omega) ?_);intro g2 c2 L2 W2 C l2 u2;go_wp2_with fail;refine(S s R _ (at_+(L2.length:Int)) _ C.rd (by omega) (by omega) (by omega)).mono ?_;rintro e j ⟨M,QQ,A,rfl,hM,d,K,l,q3,hq3,hR,b⟩;replace C:=ae (C.only b hR);have QN:=ae hM.news;have m:=ae l;have n:=ae d;have P:=IH.2 d;clear b hR hM l d;go_wp2_with (at_builtin;refine od rfl _ _ rfl C br (J QQ 0 Y) M.length A (by simp[Act.eval]) (by simp[Act.eval]) rfl n QN m (by omega) ?_);intro g3 c3 QP W3 C l3 u3;clear QN m n;go_wp2_with fail;first | (with_reducible refine(bn _ _).mono ?_) | (with_reducible refine(bK _ _ _).mono ?_) | (with_reducible refine(bB _ _).mono ?_)
   rintro e j ⟨rfl,f⟩;replace C:=ae (C.below f);clear f;go_wp2_with (at_builtin;refine ga rfl _ _ rfl C [(10,[],0)] 1 (by simp[Act.eval]) (by simp[Act.eval]) rfl rfl (by simp) (fun i hi=>by rw[j3.1 hi];exact CS _) (by omega) ?_);intro g4 c4 L4 W4 C l4 u4;obtain⟨⟨n0,cn⟩,fz⟩:=C.ir.cellN (i:=o.length) (by omega);have il:(o.length:Int)<(L4.length:Int):=by omega
   have gl:=C.ir.lt.2;go_wp2_with fail;refine(mJ _ _).mono ?_;rintro e j ⟨rfl,G⟩;rw[G];clear G;generalize (if 200<at_+(L4.length:Int) then 200 else at_+(L4.length:Int))=sv;obtain⟨L5,hlk,u,O⟩:=C.ir.setN (i:=o.length) (by omega) sv;replace C:=ae (C.low ((eI w.heap.size W4).setCell (p:=(J g4 (o.length*3+2) Y)) C.ir.lt.1 (Q I sv)) O (u C.tx));go_upto_region 33 with fail;generalize W4.setCell (J g4 (o.length*3+2) Y) (Q I sv)=W5 at C ⊢;rw[<-hlk];have b5:=Nat.le_of_eq hlk;have d5:=Nat.le_of_eq hlk.symm;clear hlk u O cn fz gl il;go_wp2_with fail;refine(S s R _ (at_+(L5.length:Int)) _ C.rd (by omega) (by omega) (by omega)).mono ?_;rintro e j ⟨M,QQ,A,rfl,hM,d,K,l,q6,hq6,hR,b⟩;replace C:=ae (C.only b hR);have QN:=ae hM.news;have m:=ae l;have n:=ae d;have P:=IH.2 d;clear b hR hM l d;go_wp2_with (at_builtin;refine od rfl _ _ rfl C br (J QQ 0 Y) M.length A (by simp[Act.eval]) (by simp[Act.eval]) rfl n QN m (by omega) ?_);intro g6 c6 L6 W6 C l6 u6;clear QN m n;obtain⟨⟨n0,cn⟩,fz⟩:=C.ir.cellN (i:=QP.length) (by omega);have il:(QP.length:Int)<(L6.length:Int):=by omega
   have gl:=C.ir.lt.2;go_wp2_with fail;refine(mJ _ _).mono ?_;rintro e j ⟨rfl,G⟩;rw[G];clear G;generalize (if 200<at_+(L6.length:Int) then 200 else at_+(L6.length:Int))=sv;obtain⟨L7,hlk,u,O⟩:=C.ir.setN (i:=QP.length) (by omega) sv;replace C:=ae (C.low ((eI w.heap.size W6).setCell (p:=(J g6 (QP.length*3+2) Y)) C.ir.lt.1 (Q I sv)) O (u C.tx));go_upto_region 35 with fail;generalize W6.setCell (J g6 (QP.length*3+2) Y) (Q I sv)=W7 at C ⊢;rw[<-hlk];have b7:=Nat.le_of_eq hlk;have d7:=Nat.le_of_eq hlk.symm;clear hlk u O cn fz gl il;go_wp2;go_ret;exact C.fin rfl (IH.1 (by omega)) (by omega) (by omega)
 ·skip
  go_wp2_with fail;refine(fZ R _ _ C.rd (by omega)).mono ?_;rintro e j ⟨t,rfl,ht,q2,aq,hR,b⟩;replace C:=ae (C.only b hR);clear b hR
  iterate 4
   go_wp2_with fail;first | (with_reducible refine(bn _ _).mono ?_) | (with_reducible refine(bK _ _ _).mono ?_) | (with_reducible refine(bB _ _).mono ?_)
   rintro e j ⟨rfl,f⟩;replace C:=ae (C.below f);clear f
  go_wp2_with (at_builtin;refine ga rfl _ _ rfl C [(1,t.data.toList,0),(7,[],0),(8,[],0),(9,[],0)] 4 (by simp[Act.eval]) (by simp[Act.eval]) rfl rfl (by simp) (eQ (by omega) (by decide)) (by omega) ?_);intro QJ c1 o V C QM u1;go_wp2;go_ret;exact C.fin rfl (IH.1 (by omega)) (by omega) (by omega)
theorem xY (R p:Nat)(at_:Int)(w:E)(hR:Rd w R p)(d:p+14<=30000)(f:0<=at_)(h1:at_+4<=10000):Calls Tryz.prog 206 #[.pointer (N (J R 0 Y)),Q I at_,Q I 0] w fun e b=>DI w R (p+14) 4 e b :=
 pO 0 4 14 4 14 (by omega) (by omega) (by omega) (by omega) (by omega) (fun h=>absurd h (by omega)) (fun h=>absurd h (by omega)) R p at_ w hR d f h1
theorem lO (d b f:Nat)(hd3:(d:Int)<=10)(hb:b<=44)(i:4<=b)(l:∀ (R p:Nat) (at_:Int) (w:E),Rd w R p->p+f<=30000->0<=at_->at_+(b:Int)<=10000->Calls Tryz.prog 206 #[.pointer (N (J R 0 Y)),Q I at_,Q I d] w fun e g=>DI w R (p+f) b e g)
  (R p:Nat) (at_:Int) (w:E) (hR:Rd w R p) (k:p+(3*f+14)<=30000) (j:0<=at_) (h:at_+((3*b+2:Nat):Int)<=10000) :
  Calls Tryz.prog 206 #[.pointer (N (J R 0 Y)),Q I at_,Q I ((d:Int)+1)] w fun e g=>DI w R (p+(3*f+14)) (3*b+2) e g :=
 pO ((d:Int)+1) b f (3*b+2) (3*f+14) (by omega) (by omega) hb (by omega) (by omega) (fun _=>⟨j6 _,j6 _,i⟩) (fun _=>by rw[Int.add_sub_cancel];exact l) R p at_ w hR k j h
def VD (f b:Nat)(d:Int):Prop:=∀ (R p:Nat) (at_:Int) (w:E),Rd w R p->p+f<=30000->0<=at_->at_+(b:Int)<=10000->Calls Tryz.prog 206 #[.pointer (N (J R 0 Y)),Q I at_,Q I d] w fun e g=>DI w R (p+f) b e g
theorem vd0:VD 14 4 ((0:Nat):Int):=fun R p at_ w hR b d h1=>xY R p at_ w hR b d (by omega)
theorem vd1:VD 56 14 ((1:Nat):Int):=fun R p at_ w hR hp b h1=>lO 0 4 14 (by omega) (by omega) (by omega) vd0 R p at_ w hR (by omega) b (by omega)
theorem vd2:VD 182 44 ((2:Nat):Int):=fun R p at_ w hR hp b h1=>lO 1 14 56 (by omega) (by omega) (by omega) vd1 R p at_ w hR (by omega) b (by omega)
theorem vd3:VD 560 134 ((3:Nat):Int):=fun R p at_ w hR hp b h1=>lO 2 44 182 (by omega) (by omega) (by omega) vd2 R p at_ w hR (by omega) b (by omega)
theorem DI.mono {w d:E}{R q q' n b:Nat}{e:Ending}(h:DI w R q n e d)(i:q<=q')(m:n<=b):DI w R q' b e d:=by obtain⟨L,g,c,h1,h2,k,j,f,p,l,o⟩:=h;exact⟨L,g,c,h1,h2,k,j5 j m,f,p,j5 l i,o⟩
theorem tQ (R p:Nat)(z:Int)(hz:z=0∨z=1)(w:E)(hR:Rd w R p)(hp:p<=29000):Calls Tryz.prog 206 #[.pointer (N (J R 0 Y)),Q I 0,Q I (2+z)] w fun e b=>DI w R (p+560) 134 e b:=by
 rcases hz with rfl | rfl
 ·exact(vd2 R p 0 w hR (by omega) (by omega) (by omega)).mono fun e b h=>h.mono (by omega) (by omega)
 ·exact vd3 R p 0 w hR (by omega) (by omega) (by omega)
def ST (w:E)(R rb:Nat)(W:E)(q:Nat):Prop:=Rd W R q/\Only R w W/\PB W rb (Z Y 0 0)/\R<w.heap.size/\w.heap.size<=rb
def SC (w:E)(R rb:Nat)(W:E)(q g c:Nat)(L:List I3)(n:Nat):Prop:=ST w R rb W q/\IR W (rb+1) g c L/\L.length<=n/\∀ i∈L,i.2.1.length<=5000
theorem ST.rd {w W:E}{R rb q:Nat}(h:ST w R rb W q):Rd W R q:=h.1
theorem ST.lt {w W:E}{R rb q:Nat}(h:ST w R rb W q):rb<W.heap.size:=h.2.2.1.lt
theorem ST.low {w W W':E}{R rb q:Nat}(h:ST w R rb W q)(hb:Below (rb+1) W W'):ST w R rb W' q:=by obtain⟨h1,h2,d,f,b⟩:=h;exact⟨h1.low hb (by omega),h2.then (hb.mono (by omega)),d.below hb (by omega),f,b⟩
theorem ST.below {w W W':E}{R rb q:Nat}(h:ST w R rb W q)(hb:Below W.heap.size W W'):ST w R rb W' q:=h.low (hb.mono h.lt)
theorem PB.only {w d:E}{b R:Nat}{v:QB}(h:PB w b v)(ho:Only R w d)(hR:b≠R):PB d b v:=(ho.block b h.lt hR).trans h
theorem ST.only {w W W':E}{R rb q q':Nat}(h:ST w R rb W q)(ho:Only R W W')(hR:Rd W' R q'):ST w R rb W' q':=by obtain⟨h1,h2,d,f,b⟩:=h;exact⟨hR,h2.trans ho,d.only ho (by omega),f,b⟩
theorem ST.new {w:E}{R q:Nat}(h:Rd w R q):ST w R w.heap.size (w.alloc (T #[Z Y 0 0] 31)) q:=by have b:=(Qs w).alloc lr (T #[Z Y 0 0] 31);exact⟨h.below b lr,Only.of_below b,eL w _,h.lt,j6 _⟩
theorem SC.st {w W:E}{R rb q g c n:Nat}{L:List I3}(h:SC w R rb W q g c L n):ST w R rb W q:=h.1
theorem SC.ir {w W:E}{R rb q g c n:Nat}{L:List I3}(h:SC w R rb W q g c L n):IR W (rb+1) g c L:=h.2.1
theorem SC.len {w W:E}{R rb q g c n:Nat}{L:List I3}(h:SC w R rb W q g c L n):L.length<=n:=h.2.2.1
theorem SC.up {w W:E}{R rb q g c n m:Nat}{L:List I3}(h:SC w R rb W q g c L n)(b:n<=m):SC w R rb W q g c L m:=⟨h.1,h.2.1,j5 h.2.2.1 b,h.2.2.2⟩
theorem SC.below {w W W':E}{R rb q g c n:Nat}{L:List I3}(h:SC w R rb W q g c L n)(hb:Below W.heap.size W W'):SC w R rb W' q g c L n :=
 ⟨h.1.below hb,h.2.1.below hb lr,h.2.2⟩
theorem SC.only {w W W':E}{R rb q q' g c n:Nat}{L:List I3}(h:SC w R rb W q g c L n)(ho:Only R W W')(hR:Rd W' R q'):SC w R rb W' q' g c L n :=
 ⟨h.1.only ho hR,h.2.1.only ho (by have:=h.1.2.2.2;omega),h.2.2⟩
theorem SC.di {w W W':E}{R rb q q' g c n:Nat}{L:List I3}(h:ST w R rb W q)(b:IR W' W.heap.size g c L)(f:L.length<=n)(d:∀ i∈L,i.2.1.length<=5000)(ho:Only R W W')(hR:Rd W' R q'):SC w R rb W' q' g c L n :=
 ⟨h.only ho hR,aI b h.lt,f,d⟩
theorem SC.app {w W W':E}{R rb q g c g' c' n n':Nat}{L M:List I3}(b:Array QB)(h:SC w R rb W q g c L n)(d:IR W' (rb+1) g' c' (L++M))(f:(W.alloc (T b 188)).grownBy W' (N g))(hn:n+M.length<=n')(m:∀ i∈M,i.2.1.length<=5000):SC w R rb W' q g' c' (L++M) n':=by
 have l:=h.1.lt;have j:=bg ((eI (rb+1) W).alloc l (T b 188)) f (by simp;omega) (fun k e=>by have:=h.2.1.lt;simp at e;omega);refine⟨h.1.low j,d,by rw[cM];have:=h.len;omega,fun i hi=>?_⟩;rcases kS.1 hi with hi | hi
 ·exact h.2.2.2 i hi
 ·exact m i hi
theorem IR.new (W:E)(b:Nat)(hb:b<=W.heap.size)(L:List I3)(d:Array QB)(f:d.toList=i3L L)(n:Nat)(g:n=L.length)(hm:n<=100000):IR (W.alloc (T d 188)) b W.heap.size n L:=by
 subst g;have hz:d.size=L.length*3:=by rw[<-iM,<-f,LE]
 refine⟨iM L,.inr ⟨W.heap.size,L.length,d,rfl,hb,eL W _,j6 _,by unfold maxLen;omega,hz,?_⟩⟩;rw[f,IZ (by rw[iM];omega)]
theorem SC.lit {w W:E}{R rb q:Nat}(h:ST w R rb W q)(L:List I3)(b:Array QB)(d:b.toList=i3L L)(n:Nat)(j:n=L.length)(g:n<=100000)(f:∀ i∈L,i.2.1.length<=5000):SC w R rb (W.alloc (T b 188)) q W.heap.size n L n :=
 ⟨h.below (br.alloc lr _),IR.new W (rb+1) h.lt L b d n j g,by omega,f⟩
theorem SC.fin {w W:E}{R rb q g c n:Nat}{L:List I3}(h:SC w R rb W q g c L n)(v:QB):PB (W.setCell (J rb 0 Y) v) rb v/\IR (W.setCell (J rb 0 Y) v) w.heap.size g c L/\L.length<=n/\(∀ i∈L,i.2.1.length<=5000)/\Rd (W.setCell (J rb 0 Y) v) R q/\Only R w (W.setCell (J rb 0 Y) v):=by obtain⟨⟨h1,h2,j,f,b⟩,k,l,d⟩:=h;have B:=(eI w.heap.size W).setCell (p:=(J rb 0 Y)) b v;exact⟨j.set v,aI (zO k (by omega) v) (by omega),l,d,h1.low B f,h2.then B⟩
def DP (w:E)(R q lo n:Nat)(e:Ending)(w':E):Prop:=∃ (L:List I3) (g c:Nat),e=QD (.agg #[Z (N (J g 0 Y)) L.length c])/\IR w' w.heap.size g c L/\lo<=L.length/\L.length<=n/\(∀ i∈L,i.2.1.length<=5000)/\∃ q':Nat,q'<=q/\Rd w' R q'/\Only R w w'
theorem hZ {fn:Func}{p:Tmp}(h:fn.results=#[.cell p 31])(tmps:Array QB)(w:E)(g:Nat)(v:QB)(d:tmps.getD p undef=.pointer (N (J g 0 Y)))(b:PB w g v):(results fn tmps).run Tryz.prog w=.ok (.agg #[v]) w :=
 results_cell_row h tmps w g 31 #[v] (0,0) _ d b Tryz.underlying31 rfl tP
def ez (L:List I3)(i:Nat):Ins:=⟨(L.getD i (0,[],0)).1,⟨(L.getD i (0,[],0)).2.1.toArray⟩,(L.getD i (0,[],0)).2.2⟩
theorem xZ:∀ (L:List I3) (i:Nat),i<L.length->(i3L L)[i*3]?=N (Q I (ez L i).op)/\(i3L L)[i*3+1]?=N (U (ez L i).s)/\(i3L L)[i*3+2]?=N (Q I (ez L i).n)
 | [],i,h=>by simp at h
 | x :: L,0,_=>⟨rfl,rfl,rfl⟩
 | x :: L,i+1,h=>by
  have f:=xZ L i (by simpa using h);have b:(i3V x).length=3:=rfl;have e:∀ k,(i3L (x :: L))[(i+1)*3+k]?=(i3L L)[i*3+k]?:=fun k=>by show(i3V x++i3L L)[(i+1)*3+k]?=_;rw[AT (by rw[b];omega),b,show(i+1)*3+k - 3=i*3+k by omega]
  have d:=e 0;rw[NE,NE] at d;rw[d,e 1,e 2];exact f
theorem IR.at {w:E}{b g c:Nat}{L:List I3}(h:IR w b g c L):∀ i,i<L.length->AtIns w g 0 i (ez L i):=by intro i hi;obtain⟨d,h1,h2⟩:=xZ L i hi;have c0:=h.news _ _ d;have c1:=h.news _ _ h1;have c2:=h.news _ _ h2;rw[gZ] at c0 c1 c2;exact⟨c0,c1,c2⟩
theorem Cy {L:List I3}(b:∀ i∈L,i.2.1.length<=5000):∀ i,i<L.length->(ez L i).s.size<=maxLen:=by
 intro i hi;have h:=b L[i] (gz hi);have e:L.getD i (0,[],0)=L[i]:=by simp[hi]
 show(L.getD i (0,[],0)).2.1.toArray.size<=maxLen;rw[e,JL];unfold maxLen;omega
theorem tR (n:Nat)(w:E)(hn:(n:Int)<=300):Calls Tryz.prog 207 #[Q I n] w fun e k=>∃ (L:List I3) (g:Nat),e=QD (Z (N (J g 0 Y)) 7 7)/\IR k w.heap.size g 7 L/\L.length=7/\(∀ i∈L,i.2.1.length<=5000)/\Below w.heap.size w k:=by
 go_enter Tryz.func207,Tryz.ntmps207;go_wp2_with fail;refine(fw ⟨#[97,32]⟩ n _ (by show 2*n<=4000;omega) (by omega)).mono ?_;rintro e Wx ⟨t,rfl,l,j⟩;rw[j];have r:t.size<=5000:=j5 l (by show 2*n<=5000;omega);clear l j;go_wp2_with fail;refine(bB t _).mono ?_;rintro e W1 ⟨rfl,b⟩;have f:=ae (b);clear b;go_wp2_with fail;refine(bn 7 _).mono ?_;rintro e W2 ⟨rfl,b⟩;have m:=ae (f.trans (b.mono f.size));clear b;go_wp2_with fail;refine(bK 5 0 _).mono ?_;rintro e W3 ⟨rfl,b⟩;have o:=ae (m.trans (b.mono m.size));clear b;go_wp2_with fail;refine(bn 13 _).mono ?_;rintro e W4 ⟨rfl,b⟩;have h:=ae (o.trans (b.mono o.size));clear b;go_wp2_with fail;refine(bn 9 _).mono ?_;rintro e W5 ⟨rfl,b⟩;have p:=ae (h.trans (b.mono h.size));clear b;go_wp2_with fail;refine(bK 4 2 _).mono ?_;rintro e W6 ⟨rfl,b⟩;have q:=ae (p.trans (b.mono p.size));clear b;go_wp2_with fail;refine(bK 10 1 _).mono ?_;rintro e s ⟨rfl,b⟩;have d:=ae (q.trans (b.mono q.size));clear b;go_wp2;go_ret;refine⟨[(1,t.data.toList,0),(7,[],0),(5,[],0),(13,[],0),(9,[],0),(4,[],2),(10,[],1)],_,rfl,IR.new s _ d.size _ _ rfl _ rfl (by omega),rfl,?_,d.alloc d.size _⟩;intro i hi;simp only[BC,nj,or_false] at hi;rcases hi with rfl | rfl | rfl | rfl | rfl | rfl | rfl
 ·show t.data.toList.length<=5000
  rw[LE];exact r
 all_goals exact CS _
theorem iw (R p:Nat)(w:E)(hR:Rd w R p)(hp:p<=20000):Calls Tryz.prog 144 #[.pointer (N (J R 0 Y))] w fun e w'=>DP w R (p+600) 1 140 e w':=by
 have QQ:=ae (ST.new hR);clear hR;go_enter Tryz.func144,Tryz.ntmps144;go_wp2_with fail;generalize w.alloc (T #[Z Y 0 0] 31)=W0 at QQ ⊢;refine(aD R _ 2 _ QQ.rd (by omega) (by omega) (by omega)).mono ?_;rintro e W1 ⟨d,rfl,d0,QG,hR,h⟩;have O:=ae (QQ.only h hR);clear h hR QQ;go_wp2_with fail;refine(tQ R _ d (by omega) _ O.rd (by omega)).mono ?_;rintro e W2 ⟨L,g,c,rfl,k,V,hn,A,q2,hq2,hR,h⟩;have C:Hid (SC w R w.heap.size W2 q2 g c L 134):=SC.di O k hn A h hR;clear h hR k A V hn O;go_wp2_with fail;refine(aD R _ 24 _ C.st.rd (by omega) (by omega) (by omega)).mono ?_;rintro e b ⟨z,rfl,z0,z1,hR,h⟩;replace C:=ae (C.only h hR);clear h hR;go_upto_if 13 with fail;go_cut [3] (fun l j=>∃ (L:List I3) (g c q:Nat),l=Z (N (J g 0 Y)) L.length c/\q<=q2+2/\Hid (SC w R w.heap.size j q g c L 135));case first =>
  rcases(show z=0∨z=1∨z=2∨3<=z by omega) with rfl | rfl | rfl | h3
  ·iterate 1
    go_wp2_with fail;first | (with_reducible refine(bn _ _).mono ?_) | (with_reducible refine(bK _ _ _).mono ?_) | (with_reducible refine(bB _ _).mono ?_)
    rintro e b ⟨rfl,f⟩;replace C:=ae (C.below f);clear f
   have X:=ae (C.below ((Qs b).alloc lr (T #[Q I 14,U ⟨#[]⟩,Q I 0] 188)));have ln:=C.len;go_wp2_with (at_builtin;refine gA rfl (.tmp 14) (.tmp 16) rfl (w.heap.size+1) g c L (by simp[Act.eval]) X.ir (J b.heap.size 0 Y) 1 1 [(14,[],0)] (by simp[Act.eval]) rfl (by simp) (fQ b #[Q I 14,U ⟨#[]⟩,Q I 0] _) (by simp only[p7,E4];omega) (by have:=C.st.lt;simp;omega) ?_;intro B c1 QO k o);go_meet;exact⟨_,B,c1,_,by simp,by omega,(C.app (n':=135) _ k o (by show 134+1<=135;omega) (fun i hi=>by rw[j3.1 hi];exact CS _))⟩
  ·iterate 1
    go_wp2_with fail;first | (with_reducible refine(bn _ _).mono ?_) | (with_reducible refine(bK _ _ _).mono ?_) | (with_reducible refine(bB _ _).mono ?_)
    rintro e b ⟨rfl,f⟩;replace C:=ae (C.below f);clear f
   have X:=ae (C.below ((Qs b).alloc lr (T #[Q I 10,U ⟨#[]⟩,Q I 0] 188)));have ln:=C.len;go_wp2_with (at_builtin;refine gA rfl (.tmp 20) (.tmp 22) rfl (w.heap.size+1) g c L (by simp[Act.eval]) X.ir (J b.heap.size 0 Y) 1 1 [(10,[],0)] (by simp[Act.eval]) rfl (by simp) (fQ b #[Q I 10,U ⟨#[]⟩,Q I 0] _) (by simp only[p7,E4];omega) (by have:=C.st.lt;simp;omega) ?_;intro B c1 QO k o);go_meet;exact⟨_,B,c1,_,by simp,by omega,(C.app (n':=135) _ k o (by show 134+1<=135;omega) (fun i hi=>by rw[j3.1 hi];exact CS _))⟩
  ·go_wp2_with fail
   refine(aD R _ 15 _ C.st.rd (by omega) (by omega) (by omega)).mono ?_;rintro e b ⟨y,rfl,W,QM,hR,h⟩;replace C:=ae (C.only h hR);clear h hR
   iterate 1
    go_wp2_with fail;first | (with_reducible refine(bn _ _).mono ?_) | (with_reducible refine(bK _ _ _).mono ?_) | (with_reducible refine(bB _ _).mono ?_)
    rintro e b ⟨rfl,f⟩;replace C:=ae (C.below f);clear f
   have X:=ae (C.below ((Qs b).alloc lr (T #[Q I (1+y),U ⟨#[]⟩,Q I 0] 188)));have ln:=C.len;go_wp2_with (at_builtin;refine gA rfl (.tmp 26) (.tmp 31) rfl (w.heap.size+1) g c L (by simp[Act.eval]) X.ir (J b.heap.size 0 Y) 1 1 [((1+y),[],0)] (by simp[Act.eval]) rfl (by simp) (fQ b #[Q I (1+y),U ⟨#[]⟩,Q I 0] _) (by simp only[p7,E4];omega) (by have:=C.st.lt;simp;omega) ?_;intro B c1 QO k o);go_meet;exact⟨_,B,c1,_,by simp,by omega,(C.app (n':=135) _ k o (by show 134+1<=135;omega) (fun i hi=>by rw[j3.1 hi];exact CS _))⟩
  ·have n0:(z == 0)=D:=by simp;omega
   have n1:(z == 1)=D:=by simp;omega
   have n2:(z == 2)=D:=by simp;omega
   go_wp2;go_meet;exact⟨L,g,c,_,rfl,by omega,C.up (by omega)⟩
 case rest =>
 clear C;obtain⟨M,g0,c0,q3,rfl,hq3,C⟩:=hcut
 iterate 1
  go_wp2_with fail;first | (with_reducible refine(bn _ _).mono ?_) | (with_reducible refine(bK _ _ _).mono ?_) | (with_reducible refine(bB _ _).mono ?_)
  rintro e b ⟨rfl,f⟩;replace C:=ae (C.below f);clear f
 have X:=ae (C.below ((Qs b).alloc lr (T #[Q I 15,U ⟨#[]⟩,Q I 0] 188)));have ln:=C.len;go_upto_if 38 with (at_builtin;refine gA rfl (.tmp 33) (.tmp 35) rfl (w.heap.size+1) g0 c0 M (by simp[Act.eval]) X.ir (J b.heap.size 0 Y) 1 1 [(15,[],0)] (by simp[Act.eval]) rfl (by simp) (fQ b #[Q I 15,U ⟨#[]⟩,Q I 0] _) (by simp only[p7,E4];omega) (by have:=C.st.lt;simp;omega) ?_;intro g c QO k o);replace C:=ae (C.app (n':=136) _ k o (by show 135+1<=136;omega) (fun i hi=>by rw[j3.1 hi];exact CS _));clear k o X ln;generalize hL:M++[(15,[],0)]=L at C;have hn1:M.length+1=L.length:=by rw[<-hL,cM];rfl
 rw[hn1];clear hL hn1;go_cut [3] (fun l j=>∃ (L:List I3) (g c q:Nat),l=Z (N (J g 0 Y)) L.length c/\q<=q3/\Hid (SC w R w.heap.size j q g c L 140));case first =>
  by_cases hz:z=3
  ·subst hz
   iterate 4
    go_wp2_with fail;first | (with_reducible refine(bn _ _).mono ?_) | (with_reducible refine(bK _ _ _).mono ?_) | (with_reducible refine(bB _ _).mono ?_)
    rintro e b ⟨rfl,f⟩;replace C:=ae (C.below f);clear f
   have u:=ae (SC.lit C.st [(1,[97,98,99,100,101,102,103,104],0),(7,[],0),(2,[],0),(10,[],1)] #[Q I 1,U ⟨#[97,98,99,100,101,102,103,104]⟩,Q I 0,Q I 7,U ⟨#[]⟩,Q I 0,Q I 2,U ⟨#[]⟩,Q I 0,Q I 10,U ⟨#[]⟩,Q I 1] rfl 4 rfl (by omega) (by decide));go_wp2;go_meet;exact⟨_,_,_,_,rfl,by omega,u.up (by omega)⟩
  ·go_wp2
   go_meet;exact⟨L,g,c,_,rfl,by omega,C.up (by omega)⟩
 case rest =>
 clear C;obtain⟨L,g,c,q4,rfl,hq4,C⟩:=hcut;go_upto_if 45 with fail;go_cut [3] (fun l j=>∃ (L:List I3) (g c q:Nat),l=Z (N (J g 0 Y)) L.length c/\q<=q4+1/\Hid (SC w R w.heap.size j q g c L 140));case first =>
  by_cases hz:z=4
  ·subst hz
   go_wp2_with fail;refine(fx R _ _ C.st.rd (by omega)).mono ?_;rintro e b ⟨t,rfl,QL,hR,h⟩;replace C:=ae (C.only h hR);clear h hR
   iterate 4
    go_wp2_with fail;first | (with_reducible refine(bn _ _).mono ?_) | (with_reducible refine(bK _ _ _).mono ?_) | (with_reducible refine(bB _ _).mono ?_)
    rintro e b ⟨rfl,f⟩;replace C:=ae (C.below f);clear f
   have u:=ae (SC.lit C.st [(1,t.data.toList,0),(13,[],0),(9,[],0),(10,[],0)] #[Q I 1,U t,Q I 0,Q I 13,U ⟨#[]⟩,Q I 0,Q I 9,U ⟨#[]⟩,Q I 0,Q I 10,U ⟨#[]⟩,Q I 0] rfl 4 rfl (by omega) (eQ (by omega) (by decide)));go_wp2;go_meet;exact⟨_,_,_,_,rfl,by omega,u.up (by omega)⟩
  ·go_wp2
   go_meet;exact⟨L,g,c,_,rfl,by omega,C.up (by omega)⟩
 case rest =>
 clear C;obtain⟨L,g,c,q5,rfl,hq5,C⟩:=hcut;go_upto_region 14 with fail;go_cut [59] (fun sb j=>∃ (s:Bool) (q:Nat),sb=QA s/\q<=q5+1/\Hid (SC w R w.heap.size j q g c L 140));case first =>
  by_cases hz:z=7
  ·subst hz
   go_wp2_with fail;refine(aD R _ 3 _ C.st.rd (by omega) (by omega) (by omega)).mono ?_;rintro e b ⟨x,rfl,x0,x1,hR,h⟩;replace C:=ae (C.only h hR);clear h hR;go_wp2;go_meet;exact⟨_,_,rfl,by omega,C⟩
  ·go_wp2
   go_meet;exact⟨_,_,rfl,by omega,C⟩
 case rest =>
 clear C;obtain⟨s,QK,rfl,hq5b,C⟩:=hcut;go_upto_if 59 with fail;go_cut [3] (fun l j=>∃ (L:List I3) (g c q:Nat),l=Z (N (J g 0 Y)) L.length c/\q<=QK+1/\Hid (SC w R w.heap.size j q g c L 140));case first =>
  cases s with
  | false =>go_wp2;go_meet;exact⟨L,g,c,_,rfl,by omega,C⟩
  | true =>
   go_wp2_with fail;refine(aD R _ 2 _ C.st.rd (by omega) (by omega) (by omega)).mono ?_;rintro e b ⟨y,rfl,W,QM,hR,h⟩;replace C:=ae (C.only h hR);clear h hR;go_wp2_with fail;obtain⟨m0,r⟩:∃ m0:Nat,499+y=(m0:Int):=⟨(499+y).toNat,by omega⟩
   rw[r];refine(fw ⟨#[120]⟩ m0 _ (by show 1*m0<=4000;omega) (by omega)).mono ?_;rintro e Wm ⟨t,rfl,QL,QH⟩;rw[QH];have aq:t.size<=5000:=j5 QL (by show 1*m0<=5000;omega);clear QL r QH
   iterate 6
    go_wp2_with fail;first | (with_reducible refine(bn _ _).mono ?_) | (with_reducible refine(bK _ _ _).mono ?_) | (with_reducible refine(bB _ _).mono ?_)
    rintro e b ⟨rfl,f⟩;replace C:=ae (C.below f);clear f
   have u:=ae (SC.lit C.st [(1,t.data.toList,0),(7,[],0),(11,[],5),(4,[],1),(10,[],1),(9,[],0)] #[Q I 1,U t,Q I 0,Q I 7,U ⟨#[]⟩,Q I 0,Q I 11,U ⟨#[]⟩,Q I 5,Q I 4,U ⟨#[]⟩,Q I 1,Q I 10,U ⟨#[]⟩,Q I 1,Q I 9,U ⟨#[]⟩,Q I 0] rfl 6 rfl (by omega) (eQ aq (by decide)));go_wp2;go_meet;exact⟨_,_,_,_,rfl,by omega,u.up (by omega)⟩
 case rest =>
 clear C;obtain⟨L,g,c,q6,rfl,hq6,C⟩:=hcut;go_upto_region 16 with fail;go_cut [77] (fun sb j=>∃ (s:Bool) (q:Nat),sb=QA s/\q<=q6+1/\Hid (SC w R w.heap.size j q g c L 140));case first =>
  by_cases hz:z=6
  ·subst hz
   go_wp2_with fail;refine(aD R _ 3 _ C.st.rd (by omega) (by omega) (by omega)).mono ?_;rintro e b ⟨x,rfl,x0,x1,hR,h⟩;replace C:=ae (C.only h hR);clear h hR;go_wp2;go_meet;exact⟨_,_,rfl,by omega,C⟩
  ·go_wp2
   go_meet;exact⟨_,_,rfl,by omega,C⟩
 case rest =>
 clear C;obtain⟨s,S,rfl,hq6b,C⟩:=hcut;go_upto_if 77 with fail;go_cut [3] (fun l j=>∃ (L:List I3) (g c q:Nat),l=Z (N (J g 0 Y)) L.length c/\q<=S+1/\Hid (SC w R w.heap.size j q g c L 140));case first =>
  cases s with
  | false =>go_wp2;go_meet;exact⟨L,g,c,_,rfl,by omega,C⟩
  | true =>
   go_wp2_with fail;refine(aD R _ 3 _ C.st.rd (by omega) (by omega) (by omega)).mono ?_;rintro e b ⟨y,rfl,W,QM,hR,h⟩;replace C:=ae (C.only h hR);clear h hR;go_wp2_with fail;obtain⟨m0,r⟩:∃ m0:Nat,200+y - 1=(m0:Int):=⟨(200+y - 1).toNat,by omega⟩
   rw[r];refine(tR m0 _ (by omega)).mono ?_;rintro e W8 ⟨LW,gW,rfl,k,lq,A,f⟩;have C8:=ae (SC.di C.st k (n:=140) (by omega) A (Only.of_below f) (C.st.rd.below f lr));clear k A f r;go_wp2;go_meet;exact⟨LW,gW,7,_,by rw[lq],by omega,C8⟩
 case rest =>
 clear C;obtain⟨L,g,c,q7,rfl,hq7,C⟩:=hcut;go_upto_if 84 with fail;go_cut [3] (fun l j=>∃ (L:List I3) (g c q:Nat),l=Z (N (J g 0 Y)) L.length c/\q<=q7/\Hid (SC w R w.heap.size j q g c L 140));case first =>
  by_cases hz:z=5
  ·subst hz
   iterate 2
    go_wp2_with fail;first | (with_reducible refine(bn _ _).mono ?_) | (with_reducible refine(bK _ _ _).mono ?_) | (with_reducible refine(bB _ _).mono ?_)
    rintro e b ⟨rfl,f⟩;replace C:=ae (C.below f);clear f
   have u:=ae (SC.lit C.st [(1,[115],0),(10,[],0)] #[Q I 1,U ⟨#[115]⟩,Q I 0,Q I 10,U ⟨#[]⟩,Q I 0] rfl 2 rfl (by omega) (by decide));go_wp2;go_meet;exact⟨_,_,_,_,rfl,by omega,u.up (by omega)⟩
  ·go_wp2
   go_meet;exact⟨L,g,c,_,rfl,by omega,C.up (by omega)⟩
 case rest =>
 clear C;obtain⟨L,g,c,P,rfl,hq8,C⟩:=hcut;have ln:=C.len;have ge:=C.ir.lt;go_wp2_with fail;refine(fJ g 0 L.length c (ez L) _ (by omega) ge.2 (fun i hi=>C.ir.at i (by omega)) (fun i hi=>Cy C.2.2.2 i (by omega))).mono ?_;rintro e Wv ⟨rfl,f⟩;have QP:=ae (C.below f);clear f;cases hv:valid (ez L) L.length with
 | true =>
  have vp:=(bY hv).2.1;clear hv;have m:=QP.st.2.2.1;have zl:=m.lt;have d0:=m.c0;have QG:=m.fz 0;have fin:=ae (QP.fin (Z (N (J g 0 Y)) L.length c));clear m;go_wp2;obtain⟨f1,H,f3,G,QN,K⟩:=fin.out;try simp only[Exit.inBlock,Exit.then]
  refine bp (hZ rfl _ _ w.heap.size _ rfl f1) rfl ?_;exact⟨L,g,c,rfl,H,by omega,by omega,G,P,by omega,QN,K⟩
 | false =>
  clear hv;replace C:=QP
  iterate 2
   go_wp2_with fail;first | (with_reducible refine(bn _ _).mono ?_) | (with_reducible refine(bK _ _ _).mono ?_) | (with_reducible refine(bB _ _).mono ?_)
   rintro e b ⟨rfl,f⟩;replace C:=ae (C.below f);clear f
  have QJ:=ae (SC.lit C.st [(1,[120],0),(15,[],0)] #[Q I 1,U ⟨#[120]⟩,Q I 0,Q I 15,U ⟨#[]⟩,Q I 0] rfl 2 rfl (by omega) (by decide));have m:=QJ.st.2.2.1;have zl:=m.lt;have d0:=m.c0;have QG:=m.fz 0;have fin:=ae (QJ.fin (Z (N (J b.heap.size 0 Y)) 2 2));clear m;go_wp2;obtain⟨f1,H,f3,G,QN,K⟩:=fin.out;try simp only[Exit.inBlock,Exit.then]
  refine bp (hZ rfl _ _ w.heap.size _ rfl f1) rfl ?_;exact⟨[(1,[120],0),(15,[],0)],b.heap.size,2,rfl,H,by simp,by simp,G,P,by omega,QN,K⟩
theorem rR:∀ (L:List I3) (i:Nat) (y:I3) (j:Nat) (v:QB),j<3->i<L.length->i3V y=(i3V (L.getD i (0,[],0))).set j v->i3L (L.set i y)=(i3L L).set (i*3+j) v
 | [],i,y,j,v,_,h,_=>by simp at h
 | x :: L,0,y,j,v,hj,_,e=>by show i3V y++i3L L=(i3V x++i3L L).set (0*3+j) v;rw[List.set_append_left _ _ (by show 0*3+j<3;omega),LZ,DC];rw[show i3V y=(i3V x).set j v from e]
 | x :: L,i+1,y,j,v,hj,h,e=>by have d:=rR L i y j v hj (by simpa using h) e;have b:(i3V x).length=3:=rfl;show i3V x++i3L (L.set i y)=(i3V x++i3L L).set ((i+1)*3+j) v;rw[d,MJ _ _ (by rw[b];omega),b,show(i+1)*3+j - 3=i*3+j by omega]
theorem IR.set3 {w:E}{b g c:Nat}{L:List I3}(h:IR w b g c L){i j:Nat}(hi:i<L.length)(k:j<3)(y:I3)(v:QB)(e:i3V y=(i3V (L.getD i (0,[],0))).set j v):IR (w.setCell (J g (i*3+j) Y) v) b g c (L.set i y):=by
 unfold IR;rw[IT,rR L i y j v k hi e];refine⟨by rw[IT];exact h.1,?_⟩;rcases h.2 with ⟨d,h0⟩ | ⟨g',cap,f,d,hb,m,h1,h2,n,l⟩
 ·simp at d
 ·simp only[CL,E2,KN] at d
  obtain⟨⟨rfl,-⟩,-,rfl⟩:=d;refine .inr ⟨g,c,f.setIfInBounds (i*3+j) v,rfl,hb,?_,h1,h2,by simpa using n,?_⟩
  ·simp[World.setCell,I6,m]
  ·rw[JN,NO,l]
theorem IR.take {w:E}{b g c:Nat}{L:List I3}(h:IR w b g c L)(k:Nat)(f:k<=L.length):IR w b g c (L.take k):=by
 have e:i3L (L.take k)=(i3L L).take (k*3):=by
  have h1:i3L L=i3L (L.take k)++i3L (L.drop k):=by rw[<-uH,KP]
  have h2:(i3L (L.take k)).length=k*3:=by rw[iM,IU,LJ f]
  rw[h1,<-h2,List.take_left'];rfl
 have l:(L.take k).length=k:=by rw[IU,LJ f]
 unfold IR;rw[e,l];refine⟨by rw[IU,h.1,LJ (by omega)],?_⟩;rcases h.2 with ⟨d,h0⟩ | ⟨g',cap,i,d,hb,m,h1,h2,n,j⟩
 ·simp at d
 ·simp only[CL,E2,KN] at d
  obtain⟨⟨rfl,-⟩,-,rfl⟩:=d;refine .inr ⟨g,c,i,rfl,hb,m,by omega,h2,n,?_⟩;rw[<-j,List.take_take,LJ (by omega)]
theorem IR.fz {w:E}{d g c:Nat}{L:List I3}(h:IR w d g c L)(j:Nat):w.frozen? (J g j Y)=D:=by
 rcases h.2 with ⟨b,_⟩ | ⟨g',cap,cur,b,_,f,_⟩
 ·simp at b
 ·simp only[CL,E2,KN] at b
  obtain⟨⟨rfl,-⟩,-,rfl⟩:=b;exact NK f _
theorem SC.set3 {w W:E}{R rb q g c n:Nat}{L:List I3}(h:SC w R rb W q g c L n){i j:Nat}(hi:i<L.length)(b:j<3)(y:I3)(v:QB)(e:i3V y=(i3V (L.getD i (0,[],0))).set j v)(d:y.2.1.length<=5000):SC w R rb (W.setCell (J g (i*3+j) Y) v) q g c (L.set i y) n:=by
 have B:=(eI (rb+1) W).setCell (p:=(J g (i*3+j) Y)) h.ir.lt.1 v;refine⟨h.1.low B,h.ir.set3 hi b y v e,by rw[IT];exact h.len,fun x f=>?_⟩;rcases JH f with h1 | h1
 ·exact h.2.2.2 x h1
 ·rw[h1];exact d
theorem SC.take {w W:E}{R rb q g c n:Nat}{L:List I3}(h:SC w R rb W q g c L n)(k:Nat)(b:k<=L.length):SC w R rb W q g c (L.take k) n :=
 ⟨h.1,h.ir.take k b,by rw[IU];have:=h.len;omega,fun i hi=>h.2.2.2 i (JU hi)⟩
theorem SC.app0 {w W W':E}{R rb q g c g' c' n n':Nat}{L M:List I3}(h:SC w R rb W q g c L n)(b:IR W' (rb+1) g' c' (L++M))(d:W.grownBy W' (N g))(hn:L.length+M.length<=n')(j:∀ i∈M,i.2.1.length<=5000):SC w R rb W' q g' c' (L++M) n':=by
 have hl:=h.1.lt;have f:=bg (eI (rb+1) W) d (by omega) (fun k e=>by have:=h.2.1.lt;simp at e;omega);refine⟨h.1.low f,b,by rw[cM];omega,fun i hi=>?_⟩;rcases kS.1 hi with hi | hi
 ·exact h.2.2.2 i hi
 ·exact j i hi
theorem SC.mono {w W:E}{R rb q g c n b:Nat}{L:List I3}(h:SC w R rb W q g c L n)(d:L.length<=b):SC w R rb W q g c L b:=⟨h.1,h.2.1,d,h.2.2.2⟩
theorem SC.text {w W:E}{R rb q g c n:Nat}{L:List I3}(h:SC w R rb W q g c L n)(i:Nat)(hi:i<L.length):(L.getD i (0,[],0)).2.1.length<=5000:=by
 have e:L.getD i (0,[],0)=L[i]:=by simp[hi]
 rw[e];exact h.2.2.2 _ (gz hi)
theorem x6 {w:E}{R q:Nat}(h:Rd w R q)(v:QB):SC w R (w.heap.size+1) (((w.alloc (T #[v] 31)).alloc (T #[Z Y 0 0] 31)).alloc (T #[] 188)) q (w.heap.size+2) 0 [] 0:=by
 have f:=(Qs w).alloc lr (T #[v] 31);have d:=f.alloc f.size (T #[Z Y 0 0] 31);have b:=d.alloc d.size (T #[] 188);have hz:((w.alloc (T #[v] 31)).alloc (T #[Z Y 0 0] 31)).heap.size=w.heap.size+2:=by simp
 have QO:=IR.lit ((w.alloc (T #[v] 31)).alloc (T #[Z Y 0 0] 31));rw[hz] at QO;refine⟨⟨h.below b lr,Only.of_below b,?_,h.lt,by omega⟩,QO,j6 _,fun i hi=>by cases hi⟩;show _=_;rw[KE _ _ (by simp)];exact KK w _ _
end Go.Proofs.YtkdimgejdocbbaaGreatDoor.Vp
