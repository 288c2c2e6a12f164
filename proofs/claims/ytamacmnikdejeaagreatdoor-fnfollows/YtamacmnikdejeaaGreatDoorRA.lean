import Derived.Test.YtamacmnikdejeaaGreatDoorSZ
import Derived.Deep.DeepCutAuto
set_option maxRecDepth 100000
set_option maxHeartbeats 8000000
set_option linter.unusedSimpArgs false
open Go.Addr renaming mk->N
open Go.Value renaming slice->Y,string->U,int->J,bool->QC
open Option renaming none->Z,some->T
open Go.Obj renaming cells->Q
open Go.IntKind renaming i64->I
open Go renaming World->G,Value->QE
open Bool renaming false->QB
open Go.Ending renaming returned->QF
namespace Go.Proofs.YtamacmnikdejeaaGreatDoor.Vp
open RowKit
theorem ef {t:ByteArray}{n:Int}(b:t.size<=5000){M:List I3}(hM:∀ i∈M,i.2.1.length<=5000):∀ i∈(1,t.data.toList,n) :: M,i.2.1.length<=5000:=by
 intro i hi;rcases p6.1 hi with rfl | hi
 ·show t.data.toList.length<=5000
  rw[JI];exact b
 ·exact hM i hi
structure VS (w:G)(R:Nat)(W:G)(q g c:Nat)(L:List I3)(n:Nat):Prop where
 rd:Rd W R q
 o:Only R w W
 ir:IR W w.heap.size g c L
 tx:∀ i∈L,i.2.1.length<=5000
 lo:R<w.heap.size
 le:L.length<=n
section
variable {w W W':G}{R q q' g c g' c' n:Nat}{L M:List I3}
theorem VS.only (h:VS w R W q g c L n)(b:Only R W W')(hR:Rd W' R q'):VS w R W' q' g c L n:=⟨hR,h.o.trans b,h.ir.only b h.lo,h.tx,h.lo,h.le⟩
theorem VS.below (h:VS w R W q g c L n)(b:Below W.heap.size W W'):VS w R W' q g c L n:=h.only (Only.of_below b) (h.rd.below b ly)
theorem VS.low (h:VS w R W q g c L n)(b:Below w.heap.size W W')(f:IR W' w.heap.size g' c' M)(hM:∀ i∈M,i.2.1.length<=5000):VS w R W' q g' c' M M.length:=⟨h.rd.low b h.lo,h.o.then b,f,hM,h.lo,j6 _⟩
theorem VS.join (h:VS w R W q g c L n)(b:IR W' w.heap.size g' c' (L++M))(f:W.grownBy W' (T g))(hM:∀ i∈M,i.2.1.length<=5000):VS w R W' q g' c' (L++M) (L++M).length :=
 h.low (bg (a8 w.heap.size W) f h.o.size (fun k e=>by have:=h.ir.lt;simp at e;omega)) b fun i hi=>by
  rcases nL.1 hi with hi | hi
  ·exact h.tx i hi
  ·exact hM i hi
theorem VS.add (cs:Array QE)(h:VS w R W q g c L n)(b:IR W' w.heap.size g' c' (L++M))(f:(W.alloc (Q cs 146)).grownBy W' (T g))(hM:∀ i∈M,i.2.1.length<=5000):VS w R W' q g' c' (L++M) (L++M).length :=
 (h.below (br.alloc ly _)).join b f hM
theorem VS.fin {m QM QN:Nat}(h:VS w R W q g c L n)(f:m=L.length)(b:L≠[])(hn:L.length<=QN)(i:q<=QM):DI w R QM QN (QF (Y (T (N g 0 Z)) m c)) W :=
 ⟨L,g,c,by rw[f],h.ir,b,hn,h.tx,q,i,h.rd,h.o⟩
end
section
variable {ops:Array Oper}{rest:List Oper}{o:Oper}{a:Act}{QM:Exit->Act->G->Prop}{w W W':G}{R q g c n:Nat}{L M:List I3}
theorem oP (hgd:o.guard=Z)(s x:Operand)(ho:o.op=.call { callee:=.builtin .append,args:=#[s,x],argTypes:=#[41,41] })(C:VS w R W q g c L n)(D:Below W.heap.size W W')(p:Addr)(m d:Nat)(y:a.eval s=Y (T (N g 0 Z)) L.length c)(A:a.eval x=Y (T p) m d)(n:m=M.length)(t:M≠[])(f:∀ j u,(i3L M)[j]?=T u->W'.cell? (p.add j)=T u)(hM:∀ i∈M,i.2.1.length<=5000)(hlen:L.length+m<=100000)
  (h:∀ g' c' b l,Hid (VS w R l q g' c' b b.length)->b.length<=L.length+m->L.length+m<=b.length->wpList Tryz.prog ops QM rest (a.put o.dst (Y (T (N g' 0 Z)) b.length c')) l):wpList Tryz.prog ops QM (o :: rest) a W':=by
 have r:=C.below D;refine fP hgd s x ho w.heap.size g c L y r.ir p m d M A n t f (by omega) r.o.size ?_;intro g' c' l z B;exact h g' c' (L++M) l (r.join z B hM) (by rw[eI,n];exact j6 _) (by rw[eI,n];exact j6 _)
theorem fZ (hgd:o.guard=Z)(s x:Operand)(ho:o.op=.call { callee:=.builtin .append,args:=#[s,x],argTypes:=#[41,41] })(C:VS w R W q g c L n)(M:List I3)(m:Nat){j:Array QE}(t:a.eval s=Y (T (N g 0 Z)) L.length c)(u:a.eval x=Y (T (N W.heap.size 0 Z)) m m)(n:j.toList=i3L M)(r:m=M.length)(l:M≠[])(hM:∀ i∈M,i.2.1.length<=5000)(f:L.length+m<=100000)
  (h:∀ g' c' b p,Hid (VS w R p q g' c' b b.length)->b.length<=L.length+m->L.length+m<=b.length->wpList Tryz.prog ops QM rest (a.put o.dst (Y (T (N g' 0 Z)) b.length c')) p):wpList Tryz.prog ops QM (o :: rest) a (W.alloc (Q j 146)) :=
 oP hgd s x ho C (br.alloc ly _) _ m m t u r l (n ▸ ee W j _) hM f h
end
theorem qD (s:Int)(P nc B S:Nat)(hd3:s<=11)(hd0:0<=s)(hb:P<=44)(hB4:4<=B)(hC14:14<=S)(ex:0<s->3*P+2<=B/\3*nc+14<=S/\4<=P)(QH:0<s->∀ (R p:Nat) (at_:Int) (w:G),Rd w R p->p+nc<=30000->0<=at_->at_+(P:Int)<=10000->Calls Tryz.prog 129 #[.pointer (T (N R 0 Z)),J I at_,J I (s - 1)] w fun e w'=>DI w R (p+nc) P e w')
  (R p:Nat) (at_:Int) (w:G) (hR:Rd w R p) (hp:p+S<=30000) (ha0:0<=at_) (ha1:at_+(B:Int)<=10000) :
  Calls Tryz.prog 129 #[.pointer (T (N R 0 Z)),J I at_,J I s] w fun e w'=>DI w R (p+S) B e w':=by
 have W:=ae QH;have A0:=(q9 w).alloc ly (Q #[] 146);have C:Hid (VS w R (w.alloc (Q #[] 146)) p w.heap.size 0 [] 0):=⟨hR.below A0 ly,Only.of_below A0,IR.lit w,fun i hi=>(by cases hi),hR.lt,j6 _⟩
 clear A0 hR QH;go_enter Tryz.func129,Tryz.ntmps129;go_wp2_with fail;generalize w.alloc (Q #[] 146)=W0 at C ⊢;refine(av R _ 12 _ C.rd (by omega) (by omega) (by omega)).mono ?_;rintro e l ⟨z,rfl,z0,z1,hR,b⟩;replace C:=ae (C.only b hR);clear b hR;go_upto_region 3 with fail;go_cut [19] (fun sb wx=>∃ QM:Bool,sb=QC QM/\(QM=true->6<z)/\(QM=QB->6<z->0<s)/\Hid (VS w R wx (p+1) w.heap.size 0 [] 0));case first =>
  by_cases h2:s<=0
  ·by_cases h3:6<z
   ·go_wp2
    go_meet;exact⟨true,rfl,fun _=>h3,(fun h=>by cases h),C.out⟩
   ·go_wp2
    go_meet;exact⟨QB,rfl,(fun h=>by cases h),fun _ h=>absurd h (by omega),C⟩
  ·go_wp2
   go_meet;exact⟨QB,rfl,(fun h=>by cases h),fun _ _=>by omega,C.out⟩
 case rest =>
 clear C;obtain⟨QM,rfl,X,bt,C⟩:=hcut;go_upto_if 19 with fail;go_cut [7,8] (fun so sk wx=>∃ (g c q:Nat) (L:List I3) (k:Int),so=Y (T (N g 0 Z)) L.length c/\sk=J I k/\0<=k/\k<12/\(6<k->0<s)/\q<=p+1/\Hid (VS w R wx q g c L 0));case first =>
  cases QM with
  | true =>
   have h2:=X rfl;have H:IntKind.i64.wrap (z - 6)=z - 6:=by rw[kP];omega
   go_wp2;go_meet;exact⟨_,_,_,[],_,rfl,rfl,by omega,by omega,fun h=>by omega,j6 _,C⟩
  | false =>have aq:=ae (bt rfl);go_wp2;go_meet;exact⟨_,_,_,[],_,rfl,rfl,by omega,by omega,aq,j6 _,C⟩
 case rest =>
 clear C;obtain⟨g,c,q,L,k,rfl,rfl,hk0,hk1,fd,hq,C⟩:=hcut;have hL0:=C.le;rcases(show(k=0∨k=1)∨(k=2∨k=3∨k=4∨k=6)∨k=5∨(k=7∨k=8∨k=9∨k=10)∨k=11 by omega) with K | K | rfl | K | rfl
 ·rcases K with rfl | rfl
  all_goals
   go_wp2_with fail;refine(fY R _ _ C.rd (by omega)).mono ?_;rintro e l ⟨t,rfl,ht,q2,QJ,hR,b⟩;replace C:=ae (C.only b hR);clear b hR;go_wp2_with fail;first | (with_reducible refine(bi _ _).mono ?_) | (with_reducible refine(bK _ _ _).mono ?_) | (with_reducible refine(bs _ _).mono ?_)
   rintro e l ⟨rfl,j⟩;replace C:=ae (C.below j);clear j;go_wp2_with (at_builtin;refine fZ rfl _ _ rfl C [(1,t.data.toList,0)] 1 (by simp[Act.eval]) (by simp[Act.eval]) rfl rfl (by simp) (ef (by omega) (by decide)) (by omega) ?_);intro QK c1 r V C QL u1;go_wp2;go_ret;exact C.fin rfl (IP.1 (by omega)) (by omega) (by omega)
 ·rcases K with rfl | rfl | rfl | rfl
  all_goals
   go_wp2_with fail;refine(dN R _ _ C.rd (by omega)).mono ?_;rintro e l ⟨t,rfl,ht,hR,b⟩;replace C:=ae (C.only b hR);clear b hR
   iterate 2
    go_wp2_with fail;first | (with_reducible refine(bi _ _).mono ?_) | (with_reducible refine(bK _ _ _).mono ?_) | (with_reducible refine(bs _ _).mono ?_)
    rintro e l ⟨rfl,j⟩;replace C:=ae (C.below j);clear j
   go_wp2_with (at_builtin;first | (refine fZ rfl _ _ rfl C [(1,t.data.toList,0),(12,[],0)] 2 (by simp[Act.eval]) (by simp[Act.eval]) rfl rfl (by simp) (ef (by omega) (by decide)) (by omega) ?_) | (refine fZ rfl _ _ rfl C [(1,t.data.toList,0),(13,[],0)] 2 (by simp[Act.eval]) (by simp[Act.eval]) rfl rfl (by simp) (ef (by omega) (by decide)) (by omega) ?_));intro QK c1 r V C QL u1;go_wp2;go_ret;exact C.fin rfl (IP.1 (by omega)) (by omega) (by omega)
 ·skip
  go_wp2_with fail;refine(dN R _ _ C.rd (by omega)).mono ?_;rintro e l ⟨t,rfl,ht,hR,b⟩;replace C:=ae (C.only b hR);clear b hR
  iterate 2
   go_wp2_with fail;first | (with_reducible refine(bi _ _).mono ?_) | (with_reducible refine(bK _ _ _).mono ?_) | (with_reducible refine(bs _ _).mono ?_)
   rintro e l ⟨rfl,j⟩;replace C:=ae (C.below j);clear j
  go_wp2_with fail;refine(av R _ 3 _ C.rd (by omega) (by omega) (by omega)).mono ?_;rintro e l ⟨y,rfl,y0,y1,hR,b⟩;replace C:=ae (C.only b hR);clear b hR
  iterate 2
   go_wp2_with fail;first | (with_reducible refine(bi _ _).mono ?_) | (with_reducible refine(bK _ _ _).mono ?_) | (with_reducible refine(bs _ _).mono ?_)
   rintro e l ⟨rfl,j⟩;replace C:=ae (C.below j);clear j
  go_wp2_with (at_builtin;refine fZ rfl _ _ rfl C [(1,t.data.toList,0),(12,[],0),(5,[],y),(12,[],0)] 4 (by simp[Act.eval]) (by simp[Act.eval]) rfl rfl (by simp) (ef (by omega) (by intro i hi;simp only[p6,nj,JQ] at hi;rcases hi with rfl | rfl | rfl<;>exact DN _)) (by omega) ?_);intro QK c1 r V C QL u1;go_wp2;go_ret;exact C.fin rfl (IP.1 (by omega)) (by omega) (by omega)
 ·have A:=fd (by omega)
  obtain⟨X,bt,aq⟩:=ex A;rcases K with rfl | rfl | rfl | rfl;all_goals
   go_wp2_with fail;refine(W A R _ at_ _ C.rd (by omega) (by omega) (by omega)).mono ?_;rintro e l ⟨M,E,D,rfl,hM,f,QN,o,q1,hq1,hR,b⟩;replace C:=ae (C.only b hR);have QO:=ae hM.news;have n:=ae o;have m:=ae f;have QP:=IP.2 f;clear b hR hM o f;go_wp2_with (at_builtin;refine oP rfl _ _ rfl C br (N E 0 Z) M.length D (by simp[Act.eval]) (by simp[Act.eval]) rfl m QO n (by omega) ?_);intro QK c1 r V C QL u1;clear QO n m
  ·skip
   go_wp2_with fail;refine(W A R _ (at_+(r.length:Int)) _ C.rd (by omega) (by omega) (by omega)).mono ?_;rintro e l ⟨M,E,D,rfl,hM,f,QN,o,q2,QJ,hR,b⟩;replace C:=ae (C.only b hR);have QO:=ae hM.news;have n:=ae o;have m:=ae f;have QP:=IP.2 f;clear b hR hM o f;go_wp2_with (at_builtin;refine oP rfl _ _ rfl C br (N E 0 Z) M.length D (by simp[Act.eval]) (by simp[Act.eval]) rfl m QO n (by omega) ?_);intro g2 c2 L2 W2 C l2 u2;clear QO n m;go_wp2_with fail;refine(av R _ 2 _ C.rd (by omega) (by omega) (by omega)).mono ?_;rintro e l ⟨y,rfl,y0,y1,hR,b⟩;replace C:=ae (C.only b hR);clear b hR;go_wp2_with fail;first | (with_reducible refine(bi _ _).mono ?_) | (with_reducible refine(bK _ _ _).mono ?_) | (with_reducible refine(bs _ _).mono ?_)
   rintro e l ⟨rfl,j⟩;replace C:=ae (C.below j);clear j;go_wp2_with (at_builtin;refine fZ rfl _ _ rfl C [((2+4*y),[],0)] 1 (by simp[Act.eval]) (by simp[Act.eval]) rfl rfl (by simp) (fun i hi=>by rw[hU.1 hi];exact DN _) (by omega) ?_);intro g3 c3 QR W3 C l3 u3;go_wp2;go_ret;exact C.fin rfl (IP.1 (by omega)) (by omega) (by omega)
  ·skip
   go_wp2_with fail;refine(av R _ 3 _ C.rd (by omega) (by omega) (by omega)).mono ?_;rintro e l ⟨x,rfl,x0,x1,hR,b⟩;replace C:=ae (C.only b hR);clear b hR;go_wp2_with fail;refine(av R _ 4 _ C.rd (by omega) (by omega) (by omega)).mono ?_;rintro e l ⟨y,rfl,y0,y1,hR,b⟩;replace C:=ae (C.only b hR);clear b hR;go_wp2_with fail;first | (with_reducible refine(bi _ _).mono ?_) | (with_reducible refine(bK _ _ _).mono ?_) | (with_reducible refine(bs _ _).mono ?_)
   rintro e l ⟨rfl,j⟩;replace C:=ae (C.below j);clear j;go_wp2_with (at_builtin;refine fZ rfl _ _ rfl C [((3+x),[],y)] 1 (by simp[Act.eval]) (by simp[Act.eval]) rfl rfl (by simp) (fun i hi=>by rw[hU.1 hi];exact DN _) (by omega) ?_);intro g2 c2 L2 W2 C l2 u2;go_wp2;go_ret;exact C.fin rfl (IP.1 (by omega)) (by omega) (by omega)
  all_goals
   go_wp2_with fail;first | (with_reducible refine(bi _ _).mono ?_) | (with_reducible refine(bK _ _ _).mono ?_) | (with_reducible refine(bs _ _).mono ?_)
   rintro e l ⟨rfl,j⟩;replace C:=ae (C.below j);clear j;go_wp2_with (at_builtin;refine fZ rfl _ _ rfl C [(11,[],0)] 1 (by simp[Act.eval]) (by simp[Act.eval]) rfl rfl (by simp) (fun i hi=>by rw[hU.1 hi];exact DN _) (by omega) ?_);intro g2 c2 L2 W2 C l2 u2;go_wp2_with fail;refine(W A R _ (at_+(L2.length:Int)) _ C.rd (by omega) (by omega) (by omega)).mono ?_;rintro e l ⟨M,E,D,rfl,hM,f,QN,o,q3,hq3,hR,b⟩;replace C:=ae (C.only b hR);have QO:=ae hM.news;have n:=ae o;have m:=ae f;have QP:=IP.2 f;clear b hR hM o f;go_wp2_with (at_builtin;refine oP rfl _ _ rfl C br (N E 0 Z) M.length D (by simp[Act.eval]) (by simp[Act.eval]) rfl m QO n (by omega) ?_);intro g3 c3 QR W3 C l3 u3;clear QO n m;go_wp2_with fail;first | (with_reducible refine(bi _ _).mono ?_) | (with_reducible refine(bK _ _ _).mono ?_) | (with_reducible refine(bs _ _).mono ?_)
   rintro e l ⟨rfl,j⟩;replace C:=ae (C.below j);clear j;go_wp2_with (at_builtin;refine fZ rfl _ _ rfl C [(10,[],0)] 1 (by simp[Act.eval]) (by simp[Act.eval]) rfl rfl (by simp) (fun i hi=>by rw[hU.1 hi];exact DN _) (by omega) ?_);intro g4 c4 L4 W4 C l4 u4;obtain⟨⟨n0,cn⟩,fz⟩:=C.ir.cellN (i:=r.length) (by omega);have il:(r.length:Int)<(L4.length:Int):=by omega
   have gl:=C.ir.lt.2;go_wp2_with fail;refine(mZ _ _).mono ?_;rintro e l ⟨rfl,H⟩;rw[H];clear H;generalize (if 200<at_+(L4.length:Int) then 200 else at_+(L4.length:Int))=sv;obtain⟨L5,hlk,u,O⟩:=C.ir.setN (i:=r.length) (by omega) sv;replace C:=ae (C.low ((a8 w.heap.size W4).setCell (p:=(N g4 (r.length*3+2) Z)) C.ir.lt.1 (J I sv)) O (u C.tx));go_upto_region 33 with fail;generalize W4.setCell (N g4 (r.length*3+2) Z) (J I sv)=W5 at C ⊢;rw[<-hlk];have b5:=Nat.le_of_eq hlk;have d5:=Nat.le_of_eq hlk.symm;clear hlk u O cn fz gl il;go_wp2_with fail;refine(W A R _ (at_+(L5.length:Int)) _ C.rd (by omega) (by omega) (by omega)).mono ?_;rintro e l ⟨M,E,D,rfl,hM,f,QN,o,q6,hq6,hR,b⟩;replace C:=ae (C.only b hR);have QO:=ae hM.news;have n:=ae o;have m:=ae f;have QP:=IP.2 f;clear b hR hM o f;go_wp2_with (at_builtin;refine oP rfl _ _ rfl C br (N E 0 Z) M.length D (by simp[Act.eval]) (by simp[Act.eval]) rfl m QO n (by omega) ?_);intro g6 c6 L6 W6 C l6 u6;clear QO n m;obtain⟨⟨n0,cn⟩,fz⟩:=C.ir.cellN (i:=QR.length) (by omega);have il:(QR.length:Int)<(L6.length:Int):=by omega
   have gl:=C.ir.lt.2;go_wp2_with fail;refine(mZ _ _).mono ?_;rintro e l ⟨rfl,H⟩;rw[H];clear H;generalize (if 200<at_+(L6.length:Int) then 200 else at_+(L6.length:Int))=sv;obtain⟨L7,hlk,u,O⟩:=C.ir.setN (i:=QR.length) (by omega) sv;replace C:=ae (C.low ((a8 w.heap.size W6).setCell (p:=(N g6 (QR.length*3+2) Z)) C.ir.lt.1 (J I sv)) O (u C.tx));go_upto_region 35 with fail;generalize W6.setCell (N g6 (QR.length*3+2) Z) (J I sv)=W7 at C ⊢;rw[<-hlk];have b7:=Nat.le_of_eq hlk;have d7:=Nat.le_of_eq hlk.symm;clear hlk u O cn fz gl il;go_wp2;go_ret;exact C.fin rfl (IP.1 (by omega)) (by omega) (by omega)
 ·skip
  go_wp2_with fail;refine(fY R _ _ C.rd (by omega)).mono ?_;rintro e l ⟨t,rfl,ht,q2,QJ,hR,b⟩;replace C:=ae (C.only b hR);clear b hR
  iterate 4
   go_wp2_with fail;first | (with_reducible refine(bi _ _).mono ?_) | (with_reducible refine(bK _ _ _).mono ?_) | (with_reducible refine(bs _ _).mono ?_)
   rintro e l ⟨rfl,j⟩;replace C:=ae (C.below j);clear j
  go_wp2_with (at_builtin;refine fZ rfl _ _ rfl C [(1,t.data.toList,0),(7,[],0),(8,[],0),(9,[],0)] 4 (by simp[Act.eval]) (by simp[Act.eval]) rfl rfl (by simp) (ef (by omega) (by decide)) (by omega) ?_);intro QK c1 r V C QL u1;go_wp2;go_ret;exact C.fin rfl (IP.1 (by omega)) (by omega) (by omega)
theorem x6 (R p:Nat)(at_:Int)(w:G)(hR:Rd w R p)(f:p+14<=30000)(b:0<=at_)(h1:at_+4<=10000):Calls Tryz.prog 129 #[.pointer (T (N R 0 Z)),J I at_,J I 0] w fun e g=>DI w R (p+14) 4 e g :=
 qD 0 4 14 4 14 (by omega) (by omega) (by omega) (by omega) (by omega) (fun h=>absurd h (by omega)) (fun h=>absurd h (by omega)) R p at_ w hR f b h1
theorem lT (d b f:Nat)(hd3:(d:Int)<=10)(hb:b<=44)(i:4<=b)(m:∀ (R p:Nat) (at_:Int) (w:G),Rd w R p->p+f<=30000->0<=at_->at_+(b:Int)<=10000->Calls Tryz.prog 129 #[.pointer (T (N R 0 Z)),J I at_,J I d] w fun e g=>DI w R (p+f) b e g)
  (R p:Nat) (at_:Int) (w:G) (hR:Rd w R p) (l:p+(3*f+14)<=30000) (h:0<=at_) (j:at_+((3*b+2:Nat):Int)<=10000) :
  Calls Tryz.prog 129 #[.pointer (T (N R 0 Z)),J I at_,J I ((d:Int)+1)] w fun e g=>DI w R (p+(3*f+14)) (3*b+2) e g :=
 qD ((d:Int)+1) b f (3*b+2) (3*f+14) (by omega) (by omega) hb (by omega) (by omega) (fun _=>⟨j6 _,j6 _,i⟩) (fun _=>by rw[Int.add_sub_cancel];exact m) R p at_ w hR l h j
def VD (b f:Nat)(d:Int):Prop:=∀ (R p:Nat) (at_:Int) (w:G),Rd w R p->p+b<=30000->0<=at_->at_+(f:Int)<=10000->Calls Tryz.prog 129 #[.pointer (T (N R 0 Z)),J I at_,J I d] w fun e g=>DI w R (p+b) f e g
theorem vd0:VD 14 4 ((0:Nat):Int):=fun R p at_ w hR f b h1=>x6 R p at_ w hR f b (by omega)
theorem vd1:VD 56 14 ((1:Nat):Int):=fun R p at_ w hR hp b h1=>lT 0 4 14 (by omega) (by omega) (by omega) vd0 R p at_ w hR (by omega) b (by omega)
theorem vd2:VD 182 44 ((2:Nat):Int):=fun R p at_ w hR hp b h1=>lT 1 14 56 (by omega) (by omega) (by omega) vd1 R p at_ w hR (by omega) b (by omega)
theorem vd3:VD 560 134 ((3:Nat):Int):=fun R p at_ w hR hp b h1=>lT 2 44 182 (by omega) (by omega) (by omega) vd2 R p at_ w hR (by omega) b (by omega)
theorem DI.mono {w f:G}{R q q' n b:Nat}{e:Ending}(h:DI w R q n e f)(o:q<=q')(hn:n<=b):DI w R q' b e f:=by obtain⟨L,g,c,h1,h2,j,i,m,p,r,l⟩:=h;exact⟨L,g,c,h1,h2,j,p9 i hn,m,p,p9 r o,l⟩
theorem uj (R p:Nat)(z:Int)(hz:z=0∨z=1)(w:G)(hR:Rd w R p)(hp:p<=29000):Calls Tryz.prog 129 #[.pointer (T (N R 0 Z)),J I 0,J I (2+z)] w fun e b=>DI w R (p+560) 134 e b:=by
 rcases hz with rfl | rfl
 ·exact(vd2 R p 0 w hR (by omega) (by omega) (by omega)).mono fun e b h=>h.mono (by omega) (by omega)
 ·exact vd3 R p 0 w hR (by omega) (by omega) (by omega)
def ST (w:G)(R b:Nat)(W:G)(q:Nat):Prop:=Rd W R q/\Only R w W/\PB W b (Y Z 0 0)/\R<w.heap.size/\w.heap.size<=b
def SC (w:G)(R b:Nat)(W:G)(q g c:Nat)(L:List I3)(n:Nat):Prop:=ST w R b W q/\IR W (b+1) g c L/\L.length<=n/\∀ i∈L,i.2.1.length<=5000
theorem ST.rd {w W:G}{R b q:Nat}(h:ST w R b W q):Rd W R q:=h.1
theorem ST.lt {w W:G}{R b q:Nat}(h:ST w R b W q):b<W.heap.size:=h.2.2.1.lt
theorem ST.low {w W W':G}{R b q:Nat}(h:ST w R b W q)(hb:Below (b+1) W W'):ST w R b W' q:=by obtain⟨h1,h2,i,f,g⟩:=h;exact⟨h1.low hb (by omega),h2.then (hb.mono (by omega)),i.below hb (by omega),f,g⟩
theorem ST.below {w W W':G}{R b q:Nat}(h:ST w R b W q)(hb:Below W.heap.size W W'):ST w R b W' q:=h.low (hb.mono h.lt)
theorem PB.only {w f:G}{b R:Nat}{v:QE}(h:PB w b v)(ho:Only R w f)(hR:b≠R):PB f b v:=(ho.block b h.lt hR).trans h
theorem ST.only {w W W':G}{R b q q':Nat}(h:ST w R b W q)(ho:Only R W W')(hR:Rd W' R q'):ST w R b W' q':=by obtain⟨h1,h2,i,f,g⟩:=h;exact⟨hR,h2.trans ho,i.only ho (by omega),f,g⟩
theorem ST.new {w:G}{R q:Nat}(h:Rd w R q):ST w R w.heap.size (w.alloc (Q #[Y Z 0 0] 43)) q:=by have b:=(q9 w).alloc ly (Q #[Y Z 0 0] 43);exact⟨h.below b ly,Only.of_below b,eT w _,h.lt,j6 _⟩
theorem SC.st {w W:G}{R b q g c n:Nat}{L:List I3}(h:SC w R b W q g c L n):ST w R b W q:=h.1
theorem SC.ir {w W:G}{R b q g c n:Nat}{L:List I3}(h:SC w R b W q g c L n):IR W (b+1) g c L:=h.2.1
theorem SC.len {w W:G}{R b q g c n:Nat}{L:List I3}(h:SC w R b W q g c L n):L.length<=n:=h.2.2.1
theorem SC.up {w W:G}{R b q g c n m:Nat}{L:List I3}(h:SC w R b W q g c L n)(f:n<=m):SC w R b W q g c L m:=⟨h.1,h.2.1,p9 h.2.2.1 f,h.2.2.2⟩
theorem SC.below {w W W':G}{R b q g c n:Nat}{L:List I3}(h:SC w R b W q g c L n)(hb:Below W.heap.size W W'):SC w R b W' q g c L n :=
 ⟨h.1.below hb,h.2.1.below hb ly,h.2.2⟩
theorem SC.only {w W W':G}{R b q q' g c n:Nat}{L:List I3}(h:SC w R b W q g c L n)(ho:Only R W W')(hR:Rd W' R q'):SC w R b W' q' g c L n :=
 ⟨h.1.only ho hR,h.2.1.only ho (by have:=h.1.2.2.2;omega),h.2.2⟩
theorem SC.di {w W W':G}{R b q q' g c n:Nat}{L:List I3}(h:ST w R b W q)(f:IR W' W.heap.size g c L)(hn:L.length<=n)(j:∀ i∈L,i.2.1.length<=5000)(ho:Only R W W')(hR:Rd W' R q'):SC w R b W' q' g c L n :=
 ⟨h.only ho hR,aE f h.lt,hn,j⟩
theorem SC.app {w W W':G}{R b q g c g' c' n n':Nat}{L M:List I3}(f:Array QE)(h:SC w R b W q g c L n)(l:IR W' (b+1) g' c' (L++M))(o:(W.alloc (Q f 146)).grownBy W' (T g))(hn:n+M.length<=n')(p:∀ i∈M,i.2.1.length<=5000):SC w R b W' q g' c' (L++M) n':=by
 have j:=h.1.lt;have m:=bg ((a8 (b+1) W).alloc j (Q f 146)) o (by simp;omega) (fun k e=>by have:=h.2.1.lt;simp at e;omega);refine⟨h.1.low m,l,by rw[eI];have:=h.len;omega,fun i hi=>?_⟩;rcases nL.1 hi with hi | hi
 ·exact h.2.2.2 i hi
 ·exact p i hi
theorem IR.new (W:G)(b:Nat)(hb:b<=W.heap.size)(L:List I3)(f:Array QE)(g:f.toList=i3L L)(n:Nat)(hn:n=L.length)(hm:n<=100000):IR (W.alloc (Q f 146)) b W.heap.size n L:=by
 subst hn;have hz:f.size=L.length*3:=by rw[<-iQ,<-g,JI]
 refine⟨iQ L,.inr ⟨W.heap.size,L.length,f,rfl,hb,eT W _,j6 _,by unfold maxLen;omega,hz,?_⟩⟩;rw[g,I8 (by rw[iQ];omega)]
theorem SC.lit {w W:G}{R b q:Nat}(h:ST w R b W q)(L:List I3)(f:Array QE)(j:f.toList=i3L L)(n:Nat)(hn:n=L.length)(g:n<=100000)(l:∀ i∈L,i.2.1.length<=5000):SC w R b (W.alloc (Q f 146)) q W.heap.size n L n :=
 ⟨h.below (br.alloc ly _),IR.new W (b+1) h.lt L f j n hn g,by omega,l⟩
theorem SC.fin {w W:G}{R b q g c n:Nat}{L:List I3}(h:SC w R b W q g c L n)(v:QE):PB (W.setCell (N b 0 Z) v) b v/\IR (W.setCell (N b 0 Z) v) w.heap.size g c L/\L.length<=n/\(∀ i∈L,i.2.1.length<=5000)/\Rd (W.setCell (N b 0 Z) v) R q/\Only R w (W.setCell (N b 0 Z) v):=by obtain⟨⟨h1,h2,l,j,o⟩,r,m,f⟩:=h;have B:=(a8 w.heap.size W).setCell (p:=(N b 0 Z)) o v;exact⟨l.set v,aE (zJ r (by omega) v) (by omega),m,f,h1.low B j,h2.then B⟩
def DP (w:G)(R q lo n:Nat)(e:Ending)(w':G):Prop:=∃ (L:List I3) (g c:Nat),e=QF (.agg #[Y (T (N g 0 Z)) L.length c])/\IR w' w.heap.size g c L/\lo<=L.length/\L.length<=n/\(∀ i∈L,i.2.1.length<=5000)/\∃ q':Nat,q'<=q/\Rd w' R q'/\Only R w w'
theorem jw {fn:Func}{p:Tmp}(h:fn.results=#[.cell p 43])(tmps:Array QE)(w:G)(g:Nat)(v:QE)(f:tmps.getD p undef=.pointer (T (N g 0 Z)))(b:PB w g v):(results fn tmps).run Tryz.prog w=.ok (.agg #[v]) w :=
 results_cell_row h tmps w g 43 #[v] (0,0) _ f b Tryz.underlying43 rfl ui
def cS (L:List I3)(i:Nat):Ins:=⟨(L.getD i (0,[],0)).1,⟨(L.getD i (0,[],0)).2.1.toArray⟩,(L.getD i (0,[],0)).2.2⟩
theorem x7:∀ (L:List I3) (i:Nat),i<L.length->(i3L L)[i*3]?=T (J I (cS L i).op)/\(i3L L)[i*3+1]?=T (U (cS L i).s)/\(i3L L)[i*3+2]?=T (J I (cS L i).n)
 | [],i,h=>by simp at h
 | x :: L,0,_=>⟨rfl,rfl,rfl⟩
 | x :: L,i+1,h=>by
  have g:=x7 L i (by simpa using h);have b:(i3V x).length=3:=rfl;have e:∀ k,(i3L (x :: L))[(i+1)*3+k]?=(i3L L)[i*3+k]?:=fun k=>by show(i3V x++i3L L)[(i+1)*3+k]?=_;rw[BS (by rw[b];omega),b,show(i+1)*3+k - 3=i*3+k by omega]
  have f:=e 0;rw[I9,I9] at f;rw[f,e 1,e 2];exact g
theorem IR.at {w:G}{b g c:Nat}{L:List I3}(h:IR w b g c L):∀ i,i<L.length->AtIns w g 0 i (cS L i):=by intro i hi;obtain⟨f,h1,h2⟩:=x7 L i hi;have c0:=h.news _ _ f;have c1:=h.news _ _ h1;have c2:=h.news _ _ h2;rw[gX] at c0 c1 c2;exact⟨c0,c1,c2⟩
theorem Co {L:List I3}(b:∀ i∈L,i.2.1.length<=5000):∀ i,i<L.length->(cS L i).s.size<=maxLen:=by
 intro i hi;have h:=b L[i] (gj hi);have e:L.getD i (0,[],0)=L[i]:=by simp[hi]
 show(L.getD i (0,[],0)).2.1.toArray.size<=maxLen;rw[e,JY];unfold maxLen;omega
theorem uk (n:Nat)(w:G)(hn:(n:Int)<=300):Calls Tryz.prog 131 #[J I n] w fun e q=>∃ (L:List I3) (g:Nat),e=QF (Y (T (N g 0 Z)) 7 7)/\IR q w.heap.size g 7 L/\L.length=7/\(∀ i∈L,i.2.1.length<=5000)/\Below w.heap.size w q:=by
 go_enter Tryz.func131,Tryz.ntmps131;go_wp2_with fail;refine(eO ⟨#[97,32]⟩ n _ (by show 2*n<=4000;omega) (by omega)).mono ?_;rintro e Wx ⟨t,rfl,m,p⟩;rw[p];have u:t.size<=5000:=p9 m (by show 2*n<=5000;omega);clear m p;go_wp2_with fail;refine(bs t _).mono ?_;rintro e W1 ⟨rfl,b⟩;have h:=ae (b);clear b;go_wp2_with fail;refine(bi 7 _).mono ?_;rintro e W2 ⟨rfl,b⟩;have j:=ae (h.trans (b.mono h.size));clear b;go_wp2_with fail;refine(bK 5 0 _).mono ?_;rintro e W3 ⟨rfl,b⟩;have r:=ae (j.trans (b.mono j.size));clear b;go_wp2_with fail;refine(bi 13 _).mono ?_;rintro e W4 ⟨rfl,b⟩;have s:=ae (r.trans (b.mono r.size));clear b;go_wp2_with fail;refine(bi 9 _).mono ?_;rintro e W5 ⟨rfl,b⟩;have l:=ae (s.trans (b.mono s.size));clear b;go_wp2_with fail;refine(bK 4 2 _).mono ?_;rintro e W6 ⟨rfl,b⟩;have o:=ae (l.trans (b.mono l.size));clear b;go_wp2_with fail;refine(bK 10 1 _).mono ?_;rintro e x ⟨rfl,b⟩;have f:=ae (o.trans (b.mono o.size));clear b;go_wp2;go_ret;refine⟨[(1,t.data.toList,0),(7,[],0),(5,[],0),(13,[],0),(9,[],0),(4,[],2),(10,[],1)],_,rfl,IR.new x _ f.size _ _ rfl _ rfl (by omega),rfl,?_,f.alloc f.size _⟩;intro i hi;simp only[p6,nj,JQ] at hi;rcases hi with rfl | rfl | rfl | rfl | rfl | rfl | rfl
 ·show t.data.toList.length<=5000
  rw[JI];exact u
 all_goals exact DN _
theorem iB (R p:Nat)(w:G)(hR:Rd w R p)(hp:p<=20000):Calls Tryz.prog 82 #[.pointer (T (N R 0 Z))] w fun e w'=>DP w R (p+600) 1 140 e w':=by
 have E:=ae (ST.new hR);clear hR;go_enter Tryz.func82,Tryz.ntmps82;go_wp2_with fail;generalize w.alloc (Q #[Y Z 0 0] 43)=W0 at E ⊢;refine(av R _ 2 _ E.rd (by omega) (by omega) (by omega)).mono ?_;rintro e W1 ⟨d,rfl,d0,W,hR,h⟩;have QP:=ae (E.only h hR);clear h hR E;go_wp2_with fail;refine(uj R _ d (by omega) _ QP.rd (by omega)).mono ?_;rintro e W2 ⟨L,g,c,rfl,l,QL,hn,D,V,hq2,hR,h⟩;have C:Hid (SC w R w.heap.size W2 V g c L 134):=SC.di QP l hn D h hR;clear h hR l D QL hn QP;go_wp2_with fail;refine(av R _ 24 _ C.st.rd (by omega) (by omega) (by omega)).mono ?_;rintro e f ⟨z,rfl,z0,z1,hR,h⟩;replace C:=ae (C.only h hR);clear h hR;go_upto_if 13 with fail;go_cut [3] (fun m j=>∃ (L:List I3) (g c q:Nat),m=Y (T (N g 0 Z)) L.length c/\q<=V+2/\Hid (SC w R w.heap.size j q g c L 135));case first =>
  rcases(show z=0∨z=1∨z=2∨3<=z by omega) with rfl | rfl | rfl | h3
  ·iterate 1
    go_wp2_with fail;first | (with_reducible refine(bi _ _).mono ?_) | (with_reducible refine(bK _ _ _).mono ?_) | (with_reducible refine(bs _ _).mono ?_)
    rintro e f ⟨rfl,b⟩;replace C:=ae (C.below b);clear b
   have X:=ae (C.below ((q9 f).alloc ly (Q #[J I 14,U ⟨#[]⟩,J I 0] 146)));have ln:=C.len;go_wp2_with (at_builtin;refine fP rfl (.tmp 14) (.tmp 16) rfl (w.heap.size+1) g c L (by simp[Act.eval]) X.ir (N f.heap.size 0 Z) 1 1 [(14,[],0)] (by simp[Act.eval]) rfl (by simp) (ee f #[J I 14,U ⟨#[]⟩,J I 0] _) (by simp only[nD,GD];omega) (by have:=C.st.lt;simp;omega) ?_;intro B c1 O l s);go_meet;exact⟨_,B,c1,_,by simp,by omega,(C.app (n':=135) _ l s (by show 134+1<=135;omega) (fun i hi=>by rw[hU.1 hi];exact DN _))⟩
  ·iterate 1
    go_wp2_with fail;first | (with_reducible refine(bi _ _).mono ?_) | (with_reducible refine(bK _ _ _).mono ?_) | (with_reducible refine(bs _ _).mono ?_)
    rintro e f ⟨rfl,b⟩;replace C:=ae (C.below b);clear b
   have X:=ae (C.below ((q9 f).alloc ly (Q #[J I 10,U ⟨#[]⟩,J I 0] 146)));have ln:=C.len;go_wp2_with (at_builtin;refine fP rfl (.tmp 20) (.tmp 22) rfl (w.heap.size+1) g c L (by simp[Act.eval]) X.ir (N f.heap.size 0 Z) 1 1 [(10,[],0)] (by simp[Act.eval]) rfl (by simp) (ee f #[J I 10,U ⟨#[]⟩,J I 0] _) (by simp only[nD,GD];omega) (by have:=C.st.lt;simp;omega) ?_;intro B c1 O l s);go_meet;exact⟨_,B,c1,_,by simp,by omega,(C.app (n':=135) _ l s (by show 134+1<=135;omega) (fun i hi=>by rw[hU.1 hi];exact DN _))⟩
  ·go_wp2_with fail
   refine(av R _ 15 _ C.st.rd (by omega) (by omega) (by omega)).mono ?_;rintro e f ⟨y,rfl,y0,QH,hR,h⟩;replace C:=ae (C.only h hR);clear h hR
   iterate 1
    go_wp2_with fail;first | (with_reducible refine(bi _ _).mono ?_) | (with_reducible refine(bK _ _ _).mono ?_) | (with_reducible refine(bs _ _).mono ?_)
    rintro e f ⟨rfl,b⟩;replace C:=ae (C.below b);clear b
   have X:=ae (C.below ((q9 f).alloc ly (Q #[J I (1+y),U ⟨#[]⟩,J I 0] 146)));have ln:=C.len;go_wp2_with (at_builtin;refine fP rfl (.tmp 26) (.tmp 31) rfl (w.heap.size+1) g c L (by simp[Act.eval]) X.ir (N f.heap.size 0 Z) 1 1 [((1+y),[],0)] (by simp[Act.eval]) rfl (by simp) (ee f #[J I (1+y),U ⟨#[]⟩,J I 0] _) (by simp only[nD,GD];omega) (by have:=C.st.lt;simp;omega) ?_;intro B c1 O l s);go_meet;exact⟨_,B,c1,_,by simp,by omega,(C.app (n':=135) _ l s (by show 134+1<=135;omega) (fun i hi=>by rw[hU.1 hi];exact DN _))⟩
  ·have n0:(z == 0)=QB:=by simp;omega
   have n1:(z == 1)=QB:=by simp;omega
   have n2:(z == 2)=QB:=by simp;omega
   go_wp2;go_meet;exact⟨L,g,c,_,rfl,by omega,C.up (by omega)⟩
 case rest =>
 clear C;obtain⟨P,g0,c0,q3,rfl,hq3,C⟩:=hcut
 iterate 1
  go_wp2_with fail;first | (with_reducible refine(bi _ _).mono ?_) | (with_reducible refine(bK _ _ _).mono ?_) | (with_reducible refine(bs _ _).mono ?_)
  rintro e f ⟨rfl,b⟩;replace C:=ae (C.below b);clear b
 have X:=ae (C.below ((q9 f).alloc ly (Q #[J I 15,U ⟨#[]⟩,J I 0] 146)));have ln:=C.len;go_upto_if 38 with (at_builtin;refine fP rfl (.tmp 33) (.tmp 35) rfl (w.heap.size+1) g0 c0 P (by simp[Act.eval]) X.ir (N f.heap.size 0 Z) 1 1 [(15,[],0)] (by simp[Act.eval]) rfl (by simp) (ee f #[J I 15,U ⟨#[]⟩,J I 0] _) (by simp only[nD,GD];omega) (by have:=C.st.lt;simp;omega) ?_;intro g c O l s);replace C:=ae (C.app (n':=136) _ l s (by show 135+1<=136;omega) (fun i hi=>by rw[hU.1 hi];exact DN _));clear l s X ln;generalize hL:P++[(15,[],0)]=L at C;have hn1:P.length+1=L.length:=by rw[<-hL,eI];rfl
 rw[hn1];clear hL hn1;go_cut [3] (fun m j=>∃ (L:List I3) (g c q:Nat),m=Y (T (N g 0 Z)) L.length c/\q<=q3/\Hid (SC w R w.heap.size j q g c L 140));case first =>
  by_cases hz:z=3
  ·subst hz
   iterate 4
    go_wp2_with fail;first | (with_reducible refine(bi _ _).mono ?_) | (with_reducible refine(bK _ _ _).mono ?_) | (with_reducible refine(bs _ _).mono ?_)
    rintro e f ⟨rfl,b⟩;replace C:=ae (C.below b);clear b
   have u:=ae (SC.lit C.st [(1,[97,98,99,100,101,102,103,104],0),(7,[],0),(2,[],0),(10,[],1)] #[J I 1,U ⟨#[97,98,99,100,101,102,103,104]⟩,J I 0,J I 7,U ⟨#[]⟩,J I 0,J I 2,U ⟨#[]⟩,J I 0,J I 10,U ⟨#[]⟩,J I 1] rfl 4 rfl (by omega) (by decide));go_wp2;go_meet;exact⟨_,_,_,_,rfl,by omega,u.up (by omega)⟩
  ·go_wp2
   go_meet;exact⟨L,g,c,_,rfl,by omega,C.up (by omega)⟩
 case rest =>
 clear C;obtain⟨L,g,c,q4,rfl,hq4,C⟩:=hcut;go_upto_if 45 with fail;go_cut [3] (fun m j=>∃ (L:List I3) (g c q:Nat),m=Y (T (N g 0 Z)) L.length c/\q<=q4+1/\Hid (SC w R w.heap.size j q g c L 140));case first =>
  by_cases hz:z=4
  ·subst hz
   go_wp2_with fail;refine(dN R _ _ C.st.rd (by omega)).mono ?_;rintro e f ⟨t,rfl,QR,hR,h⟩;replace C:=ae (C.only h hR);clear h hR
   iterate 4
    go_wp2_with fail;first | (with_reducible refine(bi _ _).mono ?_) | (with_reducible refine(bK _ _ _).mono ?_) | (with_reducible refine(bs _ _).mono ?_)
    rintro e f ⟨rfl,b⟩;replace C:=ae (C.below b);clear b
   have u:=ae (SC.lit C.st [(1,t.data.toList,0),(13,[],0),(9,[],0),(10,[],0)] #[J I 1,U t,J I 0,J I 13,U ⟨#[]⟩,J I 0,J I 9,U ⟨#[]⟩,J I 0,J I 10,U ⟨#[]⟩,J I 0] rfl 4 rfl (by omega) (ef (by omega) (by decide)));go_wp2;go_meet;exact⟨_,_,_,_,rfl,by omega,u.up (by omega)⟩
  ·go_wp2
   go_meet;exact⟨L,g,c,_,rfl,by omega,C.up (by omega)⟩
 case rest =>
 clear C;obtain⟨L,g,c,q5,rfl,hq5,C⟩:=hcut;go_upto_region 14 with fail;go_cut [59] (fun sb j=>∃ (A:Bool) (q:Nat),sb=QC A/\q<=q5+1/\Hid (SC w R w.heap.size j q g c L 140));case first =>
  by_cases hz:z=7
  ·subst hz
   go_wp2_with fail;refine(av R _ 3 _ C.st.rd (by omega) (by omega) (by omega)).mono ?_;rintro e f ⟨x,rfl,x0,x1,hR,h⟩;replace C:=ae (C.only h hR);clear h hR;go_wp2;go_meet;exact⟨_,_,rfl,by omega,C⟩
  ·go_wp2
   go_meet;exact⟨_,_,rfl,by omega,C⟩
 case rest =>
 clear C;obtain⟨A,QJ,rfl,hq5b,C⟩:=hcut;go_upto_if 59 with fail;go_cut [3] (fun m j=>∃ (L:List I3) (g c q:Nat),m=Y (T (N g 0 Z)) L.length c/\q<=QJ+1/\Hid (SC w R w.heap.size j q g c L 140));case first =>
  cases A with
  | false =>go_wp2;go_meet;exact⟨L,g,c,_,rfl,by omega,C⟩
  | true =>
   go_wp2_with fail;refine(av R _ 2 _ C.st.rd (by omega) (by omega) (by omega)).mono ?_;rintro e f ⟨y,rfl,y0,QH,hR,h⟩;replace C:=ae (C.only h hR);clear h hR;go_wp2_with fail;obtain⟨m0,r⟩:∃ m0:Nat,499+y=(m0:Int):=⟨(499+y).toNat,by omega⟩
   rw[r];refine(eO ⟨#[120]⟩ m0 _ (by show 1*m0<=4000;omega) (by omega)).mono ?_;rintro e Wm ⟨t,rfl,QR,hw⟩;rw[hw];have S:t.size<=5000:=p9 QR (by show 1*m0<=5000;omega);clear QR r hw
   iterate 6
    go_wp2_with fail;first | (with_reducible refine(bi _ _).mono ?_) | (with_reducible refine(bK _ _ _).mono ?_) | (with_reducible refine(bs _ _).mono ?_)
    rintro e f ⟨rfl,b⟩;replace C:=ae (C.below b);clear b
   have u:=ae (SC.lit C.st [(1,t.data.toList,0),(7,[],0),(11,[],5),(4,[],1),(10,[],1),(9,[],0)] #[J I 1,U t,J I 0,J I 7,U ⟨#[]⟩,J I 0,J I 11,U ⟨#[]⟩,J I 5,J I 4,U ⟨#[]⟩,J I 1,J I 10,U ⟨#[]⟩,J I 1,J I 9,U ⟨#[]⟩,J I 0] rfl 6 rfl (by omega) (ef S (by decide)));go_wp2;go_meet;exact⟨_,_,_,_,rfl,by omega,u.up (by omega)⟩
 case rest =>
 clear C;obtain⟨L,g,c,q6,rfl,hq6,C⟩:=hcut;go_upto_region 16 with fail;go_cut [77] (fun sb j=>∃ (A:Bool) (q:Nat),sb=QC A/\q<=q6+1/\Hid (SC w R w.heap.size j q g c L 140));case first =>
  by_cases hz:z=6
  ·subst hz
   go_wp2_with fail;refine(av R _ 3 _ C.st.rd (by omega) (by omega) (by omega)).mono ?_;rintro e f ⟨x,rfl,x0,x1,hR,h⟩;replace C:=ae (C.only h hR);clear h hR;go_wp2;go_meet;exact⟨_,_,rfl,by omega,C⟩
  ·go_wp2
   go_meet;exact⟨_,_,rfl,by omega,C⟩
 case rest =>
 clear C;obtain⟨A,QK,rfl,hq6b,C⟩:=hcut;go_upto_if 77 with fail;go_cut [3] (fun m j=>∃ (L:List I3) (g c q:Nat),m=Y (T (N g 0 Z)) L.length c/\q<=QK+1/\Hid (SC w R w.heap.size j q g c L 140));case first =>
  cases A with
  | false =>go_wp2;go_meet;exact⟨L,g,c,_,rfl,by omega,C⟩
  | true =>
   go_wp2_with fail;refine(av R _ 3 _ C.st.rd (by omega) (by omega) (by omega)).mono ?_;rintro e f ⟨y,rfl,y0,QH,hR,h⟩;replace C:=ae (C.only h hR);clear h hR;go_wp2_with fail;obtain⟨m0,r⟩:∃ m0:Nat,200+y - 1=(m0:Int):=⟨(200+y - 1).toNat,by omega⟩
   rw[r];refine(uk m0 _ (by omega)).mono ?_;rintro e W8 ⟨LW,gW,rfl,l,lq,D,b⟩;have C8:=ae (SC.di C.st l (n:=140) (by omega) D (Only.of_below b) (C.st.rd.below b ly));clear l D b r;go_wp2;go_meet;exact⟨LW,gW,7,_,by rw[lq],by omega,C8⟩
 case rest =>
 clear C;obtain⟨L,g,c,q7,rfl,hq7,C⟩:=hcut;go_upto_if 84 with fail;go_cut [3] (fun m j=>∃ (L:List I3) (g c q:Nat),m=Y (T (N g 0 Z)) L.length c/\q<=q7/\Hid (SC w R w.heap.size j q g c L 140));case first =>
  by_cases hz:z=5
  ·subst hz
   iterate 2
    go_wp2_with fail;first | (with_reducible refine(bi _ _).mono ?_) | (with_reducible refine(bK _ _ _).mono ?_) | (with_reducible refine(bs _ _).mono ?_)
    rintro e f ⟨rfl,b⟩;replace C:=ae (C.below b);clear b
   have u:=ae (SC.lit C.st [(1,[115],0),(10,[],0)] #[J I 1,U ⟨#[115]⟩,J I 0,J I 10,U ⟨#[]⟩,J I 0] rfl 2 rfl (by omega) (by decide));go_wp2;go_meet;exact⟨_,_,_,_,rfl,by omega,u.up (by omega)⟩
  ·go_wp2
   go_meet;exact⟨L,g,c,_,rfl,by omega,C.up (by omega)⟩
 case rest =>
 clear C;obtain⟨L,g,c,QM,rfl,hq8,C⟩:=hcut;have ln:=C.len;have ge:=C.ir.lt;go_wp2_with fail;refine(fH g 0 L.length c (cS L) _ (by omega) ge.2 (fun i hi=>C.ir.at i (by omega)) (fun i hi=>Co C.2.2.2 i (by omega))).mono ?_;rintro e Wv ⟨rfl,b⟩;have QO:=ae (C.below b);clear b;cases hv:valid (cS L) L.length with
 | true =>
  have vp:=(bN hv).2.1;clear hv;have o:=QO.st.2.2.1;have zl:=o.lt;have d0:=o.c0;have W:=o.fz 0;have fin:=ae (QO.fin (Y (T (N g 0 Z)) L.length c));clear o;go_wp2;obtain⟨f1,H,f3,QN,M,K⟩:=fin.out;try simp only[Exit.inBlock,Exit.then]
  refine bp (jw rfl _ _ w.heap.size _ rfl f1) rfl ?_;exact⟨L,g,c,rfl,H,by omega,by omega,QN,QM,by omega,M,K⟩
 | false =>
  clear hv;replace C:=QO
  iterate 2
   go_wp2_with fail;first | (with_reducible refine(bi _ _).mono ?_) | (with_reducible refine(bK _ _ _).mono ?_) | (with_reducible refine(bs _ _).mono ?_)
   rintro e f ⟨rfl,b⟩;replace C:=ae (C.below b);clear b
  have CC:=ae (SC.lit C.st [(1,[120],0),(15,[],0)] #[J I 1,U ⟨#[120]⟩,J I 0,J I 15,U ⟨#[]⟩,J I 0] rfl 2 rfl (by omega) (by decide));have o:=CC.st.2.2.1;have zl:=o.lt;have d0:=o.c0;have W:=o.fz 0;have fin:=ae (CC.fin (Y (T (N f.heap.size 0 Z)) 2 2));clear o;go_wp2;obtain⟨f1,H,f3,QN,M,K⟩:=fin.out;try simp only[Exit.inBlock,Exit.then]
  refine bp (jw rfl _ _ w.heap.size _ rfl f1) rfl ?_;exact⟨[(1,[120],0),(15,[],0)],f.heap.size,2,rfl,H,by simp,by simp,QN,QM,by omega,M,K⟩
theorem sB:∀ (L:List I3) (i:Nat) (y:I3) (j:Nat) (v:QE),j<3->i<L.length->i3V y=(i3V (L.getD i (0,[],0))).set j v->i3L (L.set i y)=(i3L L).set (i*3+j) v
 | [],i,y,j,v,_,h,_=>by simp at h
 | x :: L,0,y,j,v,hj,_,e=>by show i3V y++i3L L=(i3V x++i3L L).set (0*3+j) v;rw[MW _ _ (by show 0*3+j<3;omega),NH,D0];rw[show i3V y=(i3V x).set j v from e]
 | x :: L,i+1,y,j,v,hj,h,e=>by have f:=sB L i y j v hj (by simpa using h) e;have b:(i3V x).length=3:=rfl;show i3V x++i3L (L.set i y)=(i3V x++i3L L).set ((i+1)*3+j) v;rw[f,LB _ _ (by rw[b];omega),b,show(i+1)*3+j - 3=i*3+j by omega]
theorem IR.set3 {w:G}{b g c:Nat}{L:List I3}(h:IR w b g c L){i j:Nat}(hi:i<L.length)(o:j<3)(y:I3)(v:QE)(e:i3V y=(i3V (L.getD i (0,[],0))).set j v):IR (w.setCell (N g (i*3+j) Z) v) b g c (L.set i y):=by
 unfold IR;rw[IC,sB L i y j v o hi e];refine⟨by rw[IC];exact h.1,?_⟩;rcases h.2 with ⟨f,h0⟩ | ⟨g',cap,l,f,hb,p,h1,h2,n,m⟩
 ·simp at f
 ·simp only[IB,IF,J4] at f
  obtain⟨⟨rfl,-⟩,-,rfl⟩:=f;refine .inr ⟨g,c,l.setIfInBounds (i*3+j) v,rfl,hb,?_,h1,h2,by simpa using n,?_⟩
  ·simp[World.setCell,IK,p]
  ·rw[J7,NR,m]
theorem IR.take {w:G}{b g c:Nat}{L:List I3}(h:IR w b g c L)(k:Nat)(i:k<=L.length):IR w b g c (L.take k):=by
 have e:i3L (L.take k)=(i3L L).take (k*3):=by
  have h1:i3L L=i3L (L.take k)++i3L (L.drop k):=by rw[<-pN,J9]
  have h2:(i3L (L.take k)).length=k*3:=by rw[iQ,IU,JT i]
  rw[h1,<-h2,List.take_left'];rfl
 have n:(L.take k).length=k:=by rw[IU,JT i]
 unfold IR;rw[e,n];refine⟨by rw[IU,h.1,JT (by omega)],?_⟩;rcases h.2 with ⟨f,h0⟩ | ⟨g',cap,j,f,hb,o,h1,h2,m,l⟩
 ·simp at f
 ·simp only[IB,IF,J4] at f
  obtain⟨⟨rfl,-⟩,-,rfl⟩:=f;refine .inr ⟨g,c,j,rfl,hb,o,by omega,h2,m,?_⟩;rw[<-l,List.take_take,JT (by omega)]
theorem IR.fz {w:G}{f g c:Nat}{L:List I3}(h:IR w f g c L)(j:Nat):w.frozen? (N g j Z)=QB:=by
 rcases h.2 with ⟨b,_⟩ | ⟨g',cap,cur,b,_,i,_⟩
 ·simp at b
 ·simp only[IB,IF,J4] at b
  obtain⟨⟨rfl,-⟩,-,rfl⟩:=b;exact NK i _
theorem SC.set3 {w W:G}{R b q g c n:Nat}{L:List I3}(h:SC w R b W q g c L n){i j:Nat}(hi:i<L.length)(l:j<3)(y:I3)(v:QE)(e:i3V y=(i3V (L.getD i (0,[],0))).set j v)(m:y.2.1.length<=5000):SC w R b (W.setCell (N g (i*3+j) Z) v) q g c (L.set i y) n:=by
 have B:=(a8 (b+1) W).setCell (p:=(N g (i*3+j) Z)) h.ir.lt.1 v;refine⟨h.1.low B,h.ir.set3 hi l y v e,by rw[IC];exact h.len,fun x f=>?_⟩;rcases IZ f with h1 | h1
 ·exact h.2.2.2 x h1
 ·rw[h1];exact m
theorem SC.take {w W:G}{R b q g c n:Nat}{L:List I3}(h:SC w R b W q g c L n)(k:Nat)(f:k<=L.length):SC w R b W q g c (L.take k) n :=
 ⟨h.1,h.ir.take k f,by rw[IU];have:=h.len;omega,fun i hi=>h.2.2.2 i (JX hi)⟩
theorem SC.app0 {w W W':G}{R b q g c g' c' n n':Nat}{L M:List I3}(h:SC w R b W q g c L n)(f:IR W' (b+1) g' c' (L++M))(l:W.grownBy W' (T g))(hn:L.length+M.length<=n')(m:∀ i∈M,i.2.1.length<=5000):SC w R b W' q g' c' (L++M) n':=by
 have hl:=h.1.lt;have j:=bg (a8 (b+1) W) l (by omega) (fun k e=>by have:=h.2.1.lt;simp at e;omega);refine⟨h.1.low j,f,by rw[eI];omega,fun i hi=>?_⟩;rcases nL.1 hi with hi | hi
 ·exact h.2.2.2 i hi
 ·exact m i hi
theorem SC.mono {w W:G}{R b q g c n f:Nat}{L:List I3}(h:SC w R b W q g c L n)(hn:L.length<=f):SC w R b W q g c L f:=⟨h.1,h.2.1,hn,h.2.2.2⟩
theorem SC.text {w W:G}{R b q g c n:Nat}{L:List I3}(h:SC w R b W q g c L n)(i:Nat)(hi:i<L.length):(L.getD i (0,[],0)).2.1.length<=5000:=by
 have e:L.getD i (0,[],0)=L[i]:=by simp[hi]
 rw[e];exact h.2.2.2 _ (gj hi)
theorem qE {w:G}{R q:Nat}(h:Rd w R q)(v:QE):SC w R (w.heap.size+1) (((w.alloc (Q #[v] 43)).alloc (Q #[Y Z 0 0] 43)).alloc (Q #[] 146)) q (w.heap.size+2) 0 [] 0:=by
 have g:=(q9 w).alloc ly (Q #[v] 43);have f:=g.alloc g.size (Q #[Y Z 0 0] 43);have b:=f.alloc f.size (Q #[] 146);have hz:((w.alloc (Q #[v] 43)).alloc (Q #[Y Z 0 0] 43)).heap.size=w.heap.size+2:=by simp
 have QP:=IR.lit ((w.alloc (Q #[v] 43)).alloc (Q #[Y Z 0 0] 43));rw[hz] at QP;refine⟨⟨h.below b ly,Only.of_below b,?_,h.lt,by omega⟩,QP,j6 _,fun i hi=>by cases hi⟩;show _=_;rw[heap_alloc_old _ _ (by simp)];exact JZ w _ _
end Go.Proofs.YtamacmnikdejeaaGreatDoor.Vp
