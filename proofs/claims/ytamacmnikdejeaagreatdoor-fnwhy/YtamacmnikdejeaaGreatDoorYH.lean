import Derived.Test.YtamacmnikdejeaaGreatDoorYG
import Derived.Deep.DeepCutAuto
set_option maxRecDepth 100000
set_option maxHeartbeats 8000000
set_option linter.unusedSimpArgs false
open Go.Addr renaming mk->T
open Go.Value renaming slice->Y,string->U,int->I,bool->QT
open Option renaming none->Z,some->N
open Go.Obj renaming cells->Q
open Go.IntKind renaming i64->J
open Go renaming World->H,Value->QS
open Bool renaming false->QQ
open Go.Ending renaming returned->QU
namespace Go.Proofs.YtamacmnikdejeaaGreatDoor.Vp
open RowKit
theorem fl {t:ByteArray}{n:Int}(b:t.size<=5000){M:List I3}(hM:∀ i∈M,i.2.1.length<=5000):∀ i∈(1,t.data.toList,n) :: M,i.2.1.length<=5000:=by
 intro i hi;rcases nD.1 hi with rfl | hi
 ·show t.data.toList.length<=5000
  rw[L9];exact b
 ·exact hM i hi
structure VS (w:H)(R:Nat)(W:H)(q g c:Nat)(L:List I3)(n:Nat):Prop where
 rd:Rd W R q
 o:Only R w W
 ir:IR W w.heap.size g c L
 tx:∀ i∈L,i.2.1.length<=5000
 lo:R<w.heap.size
 le:L.length<=n
section
variable {w W W':H}{R q q' g c g' c' n:Nat}{L M:List I3}
theorem VS.only (h:VS w R W q g c L n)(b:Only R W W')(hR:Rd W' R q'):VS w R W' q' g c L n:=⟨hR,h.o.trans b,h.ir.only b h.lo,h.tx,h.lo,h.le⟩
theorem VS.below (h:VS w R W q g c L n)(b:Below W.heap.size W W'):VS w R W' q g c L n:=h.only (Only.of_below b) (h.rd.below b ly)
theorem VS.low (h:VS w R W q g c L n)(b:Below w.heap.size W W')(f:IR W' w.heap.size g' c' M)(hM:∀ i∈M,i.2.1.length<=5000):VS w R W' q g' c' M M.length:=⟨h.rd.low b h.lo,h.o.then b,f,hM,h.lo,j5 _⟩
theorem VS.join (h:VS w R W q g c L n)(b:IR W' w.heap.size g' c' (L++M))(f:W.grownBy W' (N g))(hM:∀ i∈M,i.2.1.length<=5000):VS w R W' q g' c' (L++M) (L++M).length :=
 h.low (bg (eL w.heap.size W) f h.o.size (fun k e=>by have:=h.ir.lt;simp at e;omega)) b fun i hi=>by
  rcases hU.1 hi with hi | hi
  ·exact h.tx i hi
  ·exact hM i hi
theorem VS.fin {m Q0 QZ:Nat}(h:VS w R W q g c L n)(i:m=L.length)(b:L≠[])(hn:L.length<=QZ)(f:q<=Q0):DI w R Q0 QZ (QU (Y (N (T g 0 Z)) m c)) W :=
 ⟨L,g,c,by rw[i],h.ir,b,hn,h.tx,q,f,h.rd,h.o⟩
end
section
variable {ops:Array Oper}{rest:List Oper}{o:Oper}{a:Act}{Q0:Exit->Act->H->Prop}{w W W':H}{R q g c n:Nat}{L M:List I3}
theorem px (hgd:o.guard=Z)(s x:Operand)(ho:o.op=.call { callee:=.builtin .append,args:=#[s,x],argTypes:=#[41,41] })(C:VS w R W q g c L n)(D:Below W.heap.size W W')(r:Addr)(m d:Nat)(y:a.eval s=Y (N (T g 0 Z)) L.length c)(z:a.eval x=Y (N r) m d)(p:m=M.length)(t:M≠[])(f:∀ j u,(i3L M)[j]?=N u->W'.cell? (r.add j)=N u)(hM:∀ i∈M,i.2.1.length<=5000)(hlen:L.length+m<=100000)
  (h:∀ g' c' b l,Hid (VS w R l q g' c' b b.length)->b.length<=L.length+m->L.length+m<=b.length->wpList Tryz.prog ops Q0 rest (a.put o.dst (Y (N (T g' 0 Z)) b.length c')) l):wpList Tryz.prog ops Q0 (o :: rest) a W':=by
 have n:=C.below D;refine ip hgd s x ho w.heap.size g c L y n.ir r m d M z p t f (by omega) n.o.size ?_;intro g' c' l B A;exact h g' c' (L++M) l (n.join B A hM) (by rw[a8,p];exact j5 _) (by rw[a8,p];exact j5 _)
theorem gR (hgd:o.guard=Z)(s x:Operand)(ho:o.op=.call { callee:=.builtin .append,args:=#[s,x],argTypes:=#[41,41] })(C:VS w R W q g c L n)(M:List I3)(m:Nat){j:Array QS}(r:a.eval s=Y (N (T g 0 Z)) L.length c)(t:a.eval x=Y (N (T W.heap.size 0 Z)) m m)(l:j.toList=i3L M)(u:m=M.length)(p:M≠[])(hM:∀ i∈M,i.2.1.length<=5000)(f:L.length+m<=100000)
  (h:∀ g' c' b n,Hid (VS w R n q g' c' b b.length)->b.length<=L.length+m->L.length+m<=b.length->wpList Tryz.prog ops Q0 rest (a.put o.dst (Y (N (T g' 0 Z)) b.length c')) n):wpList Tryz.prog ops Q0 (o :: rest) a (W.alloc (Q j 146)) :=
 px hgd s x ho C (br.alloc ly _) _ m m r t u p (l ▸ fF W j _) hM f h
end
theorem rp (u:Int)(P nc B QY:Nat)(hd3:u<=11)(hd0:0<=u)(hb:P<=44)(hB4:4<=B)(hC14:14<=QY)(fd:0<u->3*P+2<=B/\3*nc+14<=QY/\4<=P)(QX:0<u->∀ (R p:Nat) (at_:Int) (w:H),Rd w R p->p+nc<=30000->0<=at_->at_+(P:Int)<=10000->Calls Tryz.prog 129 #[.pointer (N (T R 0 Z)),I J at_,I J (u - 1)] w fun e w'=>DI w R (p+nc) P e w')
  (R p:Nat) (at_:Int) (w:H) (hR:Rd w R p) (hp:p+QY<=30000) (ha0:0<=at_) (ha1:at_+(B:Int)<=10000) :
  Calls Tryz.prog 129 #[.pointer (N (T R 0 Z)),I J at_,I J u] w fun e w'=>DI w R (p+QY) B e w':=by
 have V:=ae QX;have A0:=(q9 w).alloc ly (Q #[] 146);have C:Hid (VS w R (w.alloc (Q #[] 146)) p w.heap.size 0 [] 0):=⟨hR.below A0 ly,Only.of_below A0,IR.lit w,fun i hi=>(by cases hi),hR.lt,j5 _⟩
 clear A0 hR QX;go_enter Tryz.func129,Tryz.ntmps129;go_wp2_with fail;generalize w.alloc (Q #[] 146)=W0 at C ⊢;refine(aw R _ 12 _ C.rd (by omega) (by omega) (by omega)).mono ?_;rintro e l ⟨z,rfl,z0,z1,hR,b⟩;replace C:=ae (C.only b hR);clear b hR;go_upto_region 3 with fail;go_cut [19] (fun sb wx=>∃ ZA:Bool,sb=QT ZA/\(ZA=true->6<z)/\(ZA=QQ->6<z->0<u)/\Hid (VS w R wx (p+1) w.heap.size 0 [] 0));case first =>
  by_cases h2:u<=0
  ·by_cases h3:6<z
   ·go_wp2
    go_meet;exact⟨true,rfl,fun _=>h3,(fun h=>by cases h),C.out⟩
   ·go_wp2
    go_meet;exact⟨QQ,rfl,(fun h=>by cases h),fun _ h=>absurd h (by omega),C⟩
  ·go_wp2
   go_meet;exact⟨QQ,rfl,(fun h=>by cases h),fun _ _=>by omega,C.out⟩
 case rest =>
 clear C;obtain⟨ZA,rfl,X,bt,C⟩:=hcut;go_upto_if 19 with fail;go_cut [7,8] (fun so sk wx=>∃ (g c q:Nat) (L:List I3) (k:Int),so=Y (N (T g 0 Z)) L.length c/\sk=I J k/\0<=k/\k<12/\(6<k->0<u)/\q<=p+1/\Hid (VS w R wx q g c L 0));case first =>
  cases ZA with
  | true =>
   have h2:=X rfl;have ZB:IntKind.i64.wrap (z - 6)=z - 6:=by rw[j6];omega
   go_wp2;go_meet;exact⟨_,_,_,[],_,rfl,rfl,by omega,by omega,fun h=>by omega,j5 _,C⟩
  | false =>have QW:=ae (bt rfl);go_wp2;go_meet;exact⟨_,_,_,[],_,rfl,rfl,by omega,by omega,QW,j5 _,C⟩
 case rest =>
 clear C;obtain⟨g,c,q,L,k,rfl,rfl,hk0,hk1,la,hq,C⟩:=hcut;have hL0:=C.le;rcases(show(k=0∨k=1)∨(k=2∨k=3∨k=4∨k=6)∨k=5∨(k=7∨k=8∨k=9∨k=10)∨k=11 by omega) with O | O | rfl | O | rfl
 ·rcases O with rfl | rfl
  all_goals
   go_wp2_with fail;refine(fP R _ _ C.rd (by omega)).mono ?_;rintro e l ⟨t,rfl,ht,q2,aq,hR,b⟩;replace C:=ae (C.only b hR);clear b hR;go_wp2_with fail;first | (with_reducible refine(bs _ _).mono ?_) | (with_reducible refine(bO _ _ _).mono ?_) | (with_reducible refine(bE _ _).mono ?_)
   rintro e l ⟨rfl,j⟩;replace C:=ae (C.below j);clear j;go_wp2_with (at_builtin;refine gR rfl _ _ rfl C [(1,t.data.toList,0)] 1 (by simp[Act.eval]) (by simp[Act.eval]) rfl rfl (by simp) (fl (by omega) (by decide)) (by omega) ?_);intro W c1 s Q2 C S u1;go_wp2;go_ret;exact C.fin rfl (JS.1 (by omega)) (by omega) (by omega)
 ·rcases O with rfl | rfl | rfl | rfl
  all_goals
   go_wp2_with fail;refine(dN R _ _ C.rd (by omega)).mono ?_;rintro e l ⟨t,rfl,ht,hR,b⟩;replace C:=ae (C.only b hR);clear b hR
   iterate 2
    go_wp2_with fail;first | (with_reducible refine(bs _ _).mono ?_) | (with_reducible refine(bO _ _ _).mono ?_) | (with_reducible refine(bE _ _).mono ?_)
    rintro e l ⟨rfl,j⟩;replace C:=ae (C.below j);clear j
   go_wp2_with (at_builtin;first | (refine gR rfl _ _ rfl C [(1,t.data.toList,0),(12,[],0)] 2 (by simp[Act.eval]) (by simp[Act.eval]) rfl rfl (by simp) (fl (by omega) (by decide)) (by omega) ?_) | (refine gR rfl _ _ rfl C [(1,t.data.toList,0),(13,[],0)] 2 (by simp[Act.eval]) (by simp[Act.eval]) rfl rfl (by simp) (fl (by omega) (by decide)) (by omega) ?_));intro W c1 s Q2 C S u1;go_wp2;go_ret;exact C.fin rfl (JS.1 (by omega)) (by omega) (by omega)
 ·skip
  go_wp2_with fail;refine(dN R _ _ C.rd (by omega)).mono ?_;rintro e l ⟨t,rfl,ht,hR,b⟩;replace C:=ae (C.only b hR);clear b hR
  iterate 2
   go_wp2_with fail;first | (with_reducible refine(bs _ _).mono ?_) | (with_reducible refine(bO _ _ _).mono ?_) | (with_reducible refine(bE _ _).mono ?_)
   rintro e l ⟨rfl,j⟩;replace C:=ae (C.below j);clear j
  go_wp2_with fail;refine(aw R _ 3 _ C.rd (by omega) (by omega) (by omega)).mono ?_;rintro e l ⟨y,rfl,y0,y1,hR,b⟩;replace C:=ae (C.only b hR);clear b hR
  iterate 2
   go_wp2_with fail;first | (with_reducible refine(bs _ _).mono ?_) | (with_reducible refine(bO _ _ _).mono ?_) | (with_reducible refine(bE _ _).mono ?_)
   rintro e l ⟨rfl,j⟩;replace C:=ae (C.below j);clear j
  go_wp2_with (at_builtin;refine gR rfl _ _ rfl C [(1,t.data.toList,0),(12,[],0),(5,[],y),(12,[],0)] 4 (by simp[Act.eval]) (by simp[Act.eval]) rfl rfl (by simp) (fl (by omega) (by intro i hi;simp only[nD,nj,MA] at hi;rcases hi with rfl | rfl | rfl<;>exact AI _)) (by omega) ?_);intro W c1 s Q2 C S u1;go_wp2;go_ret;exact C.fin rfl (JS.1 (by omega)) (by omega) (by omega)
 ·have D:=la (by omega)
  obtain⟨X,bt,QW⟩:=fd D;rcases O with rfl | rfl | rfl | rfl;all_goals
   go_wp2_with fail;refine(V D R _ at_ _ C.rd (by omega) (by omega) (by omega)).mono ?_;rintro e l ⟨M,E,F,rfl,hM,f,QZ,n,q1,hq1,hR,b⟩;replace C:=ae (C.only b hR);have Q9:=ae hM.news;have o:=ae n;have m:=ae f;have K:=JS.2 f;clear b hR hM n f;go_wp2_with (at_builtin;refine px rfl _ _ rfl C br (T E 0 Z) M.length F (by simp[Act.eval]) (by simp[Act.eval]) rfl m Q9 o (by omega) ?_);intro W c1 s Q2 C S u1;clear Q9 o m
  ·skip
   go_wp2_with fail;refine(V D R _ (at_+(s.length:Int)) _ C.rd (by omega) (by omega) (by omega)).mono ?_;rintro e l ⟨M,E,F,rfl,hM,f,QZ,n,q2,aq,hR,b⟩;replace C:=ae (C.only b hR);have Q9:=ae hM.news;have o:=ae n;have m:=ae f;have K:=JS.2 f;clear b hR hM n f;go_wp2_with (at_builtin;refine px rfl _ _ rfl C br (T E 0 Z) M.length F (by simp[Act.eval]) (by simp[Act.eval]) rfl m Q9 o (by omega) ?_);intro g2 c2 L2 W2 C l2 u2;clear Q9 o m;go_wp2_with fail;refine(aw R _ 2 _ C.rd (by omega) (by omega) (by omega)).mono ?_;rintro e l ⟨y,rfl,y0,y1,hR,b⟩;replace C:=ae (C.only b hR);clear b hR;go_wp2_with fail;first | (with_reducible refine(bs _ _).mono ?_) | (with_reducible refine(bO _ _ _).mono ?_) | (with_reducible refine(bE _ _).mono ?_)
   rintro e l ⟨rfl,j⟩;replace C:=ae (C.below j);clear j;go_wp2_with (at_builtin;refine gR rfl _ _ rfl C [((2+4*y),[],0)] 1 (by simp[Act.eval]) (by simp[Act.eval]) rfl rfl (by simp) (fun i hi=>by rw[eT.1 hi];exact AI _) (by omega) ?_);intro g3 c3 G W3 C l3 u3;go_wp2;go_ret;exact C.fin rfl (JS.1 (by omega)) (by omega) (by omega)
  ·skip
   go_wp2_with fail;refine(aw R _ 3 _ C.rd (by omega) (by omega) (by omega)).mono ?_;rintro e l ⟨x,rfl,x0,x1,hR,b⟩;replace C:=ae (C.only b hR);clear b hR;go_wp2_with fail;refine(aw R _ 4 _ C.rd (by omega) (by omega) (by omega)).mono ?_;rintro e l ⟨y,rfl,y0,y1,hR,b⟩;replace C:=ae (C.only b hR);clear b hR;go_wp2_with fail;first | (with_reducible refine(bs _ _).mono ?_) | (with_reducible refine(bO _ _ _).mono ?_) | (with_reducible refine(bE _ _).mono ?_)
   rintro e l ⟨rfl,j⟩;replace C:=ae (C.below j);clear j;go_wp2_with (at_builtin;refine gR rfl _ _ rfl C [((3+x),[],y)] 1 (by simp[Act.eval]) (by simp[Act.eval]) rfl rfl (by simp) (fun i hi=>by rw[eT.1 hi];exact AI _) (by omega) ?_);intro g2 c2 L2 W2 C l2 u2;go_wp2;go_ret;exact C.fin rfl (JS.1 (by omega)) (by omega) (by omega)
  all_goals
   go_wp2_with fail;first | (with_reducible refine(bs _ _).mono ?_) | (with_reducible refine(bO _ _ _).mono ?_) | (with_reducible refine(bE _ _).mono ?_)
   rintro e l ⟨rfl,j⟩;replace C:=ae (C.below j);clear j;go_wp2_with (at_builtin;refine gR rfl _ _ rfl C [(11,[],0)] 1 (by simp[Act.eval]) (by simp[Act.eval]) rfl rfl (by simp) (fun i hi=>by rw[eT.1 hi];exact AI _) (by omega) ?_);intro g2 c2 L2 W2 C l2 u2;go_wp2_with fail;refine(V D R _ (at_+(L2.length:Int)) _ C.rd (by omega) (by omega) (by omega)).mono ?_;rintro e l ⟨M,E,F,rfl,hM,f,QZ,n,q3,hq3,hR,b⟩;replace C:=ae (C.only b hR);have Q9:=ae hM.news;have o:=ae n;have m:=ae f;have K:=JS.2 f;clear b hR hM n f;go_wp2_with (at_builtin;refine px rfl _ _ rfl C br (T E 0 Z) M.length F (by simp[Act.eval]) (by simp[Act.eval]) rfl m Q9 o (by omega) ?_);intro g3 c3 G W3 C l3 u3;clear Q9 o m;go_wp2_with fail;first | (with_reducible refine(bs _ _).mono ?_) | (with_reducible refine(bO _ _ _).mono ?_) | (with_reducible refine(bE _ _).mono ?_)
   rintro e l ⟨rfl,j⟩;replace C:=ae (C.below j);clear j;go_wp2_with (at_builtin;refine gR rfl _ _ rfl C [(10,[],0)] 1 (by simp[Act.eval]) (by simp[Act.eval]) rfl rfl (by simp) (fun i hi=>by rw[eT.1 hi];exact AI _) (by omega) ?_);intro g4 c4 L4 W4 C l4 u4;obtain⟨⟨n0,cn⟩,fz⟩:=C.ir.cellN (i:=s.length) (by omega);have il:(s.length:Int)<(L4.length:Int):=by omega
   have gl:=C.ir.lt.2;go_wp2_with fail;refine(nT _ _).mono ?_;rintro e l ⟨rfl,ZB⟩;rw[ZB];clear ZB;generalize (if 200<at_+(L4.length:Int) then 200 else at_+(L4.length:Int))=sv;obtain⟨L5,r,A,Q0⟩:=C.ir.setN (i:=s.length) (by omega) sv;replace C:=ae (C.low ((eL w.heap.size W4).setCell (p:=(T g4 (s.length*3+2) Z)) C.ir.lt.1 (I J sv)) Q0 (A C.tx));go_upto_region 33 with fail;generalize W4.setCell (T g4 (s.length*3+2) Z) (I J sv)=W5 at C ⊢;rw[<-r];have b5:=Nat.le_of_eq r;have d5:=Nat.le_of_eq r.symm;clear r A Q0 cn fz gl il;go_wp2_with fail;refine(V D R _ (at_+(L5.length:Int)) _ C.rd (by omega) (by omega) (by omega)).mono ?_;rintro e l ⟨M,E,F,rfl,hM,f,QZ,n,q6,hq6,hR,b⟩;replace C:=ae (C.only b hR);have Q9:=ae hM.news;have o:=ae n;have m:=ae f;have K:=JS.2 f;clear b hR hM n f;go_wp2_with (at_builtin;refine px rfl _ _ rfl C br (T E 0 Z) M.length F (by simp[Act.eval]) (by simp[Act.eval]) rfl m Q9 o (by omega) ?_);intro g6 c6 L6 W6 C l6 u6;clear Q9 o m;obtain⟨⟨n0,cn⟩,fz⟩:=C.ir.cellN (i:=G.length) (by omega);have il:(G.length:Int)<(L6.length:Int):=by omega
   have gl:=C.ir.lt.2;go_wp2_with fail;refine(nT _ _).mono ?_;rintro e l ⟨rfl,ZB⟩;rw[ZB];clear ZB;generalize (if 200<at_+(L6.length:Int) then 200 else at_+(L6.length:Int))=sv;obtain⟨L7,r,A,Q0⟩:=C.ir.setN (i:=G.length) (by omega) sv;replace C:=ae (C.low ((eL w.heap.size W6).setCell (p:=(T g6 (G.length*3+2) Z)) C.ir.lt.1 (I J sv)) Q0 (A C.tx));go_upto_region 35 with fail;generalize W6.setCell (T g6 (G.length*3+2) Z) (I J sv)=W7 at C ⊢;rw[<-r];have b7:=Nat.le_of_eq r;have d7:=Nat.le_of_eq r.symm;clear r A Q0 cn fz gl il;go_wp2;go_ret;exact C.fin rfl (JS.1 (by omega)) (by omega) (by omega)
 ·skip
  go_wp2_with fail;refine(fP R _ _ C.rd (by omega)).mono ?_;rintro e l ⟨t,rfl,ht,q2,aq,hR,b⟩;replace C:=ae (C.only b hR);clear b hR
  iterate 4
   go_wp2_with fail;first | (with_reducible refine(bs _ _).mono ?_) | (with_reducible refine(bO _ _ _).mono ?_) | (with_reducible refine(bE _ _).mono ?_)
   rintro e l ⟨rfl,j⟩;replace C:=ae (C.below j);clear j
  go_wp2_with (at_builtin;refine gR rfl _ _ rfl C [(1,t.data.toList,0),(7,[],0),(8,[],0),(9,[],0)] 4 (by simp[Act.eval]) (by simp[Act.eval]) rfl rfl (by simp) (fl (by omega) (by decide)) (by omega) ?_);intro W c1 s Q2 C S u1;go_wp2;go_ret;exact C.fin rfl (JS.1 (by omega)) (by omega) (by omega)
theorem zE (R p:Nat)(at_:Int)(w:H)(hR:Rd w R p)(b:p+14<=30000)(c:0<=at_)(h1:at_+4<=10000):Calls Tryz.prog 129 #[.pointer (N (T R 0 Z)),I J at_,I J 0] w fun e f=>DI w R (p+14) 4 e f :=
 rp 0 4 14 4 14 (by omega) (by omega) (by omega) (by omega) (by omega) (fun h=>absurd h (by omega)) (fun h=>absurd h (by omega)) R p at_ w hR b c h1
theorem mQ (d b c:Nat)(hd3:(d:Int)<=10)(hb:b<=44)(g:4<=b)(l:∀ (R p:Nat) (at_:Int) (w:H),Rd w R p->p+c<=30000->0<=at_->at_+(b:Int)<=10000->Calls Tryz.prog 129 #[.pointer (N (T R 0 Z)),I J at_,I J d] w fun e f=>DI w R (p+c) b e f)
  (R p:Nat) (at_:Int) (w:H) (hR:Rd w R p) (j:p+(3*c+14)<=30000) (h:0<=at_) (i:at_+((3*b+2:Nat):Int)<=10000) :
  Calls Tryz.prog 129 #[.pointer (N (T R 0 Z)),I J at_,I J ((d:Int)+1)] w fun e f=>DI w R (p+(3*c+14)) (3*b+2) e f :=
 rp ((d:Int)+1) b c (3*b+2) (3*c+14) (by omega) (by omega) hb (by omega) (by omega) (fun _=>⟨j5 _,j5 _,g⟩) (fun _=>by rw[Int.add_sub_cancel];exact l) R p at_ w hR j h i
def VD (b c:Nat)(d:Int):Prop:=∀ (R p:Nat) (at_:Int) (w:H),Rd w R p->p+b<=30000->0<=at_->at_+(c:Int)<=10000->Calls Tryz.prog 129 #[.pointer (N (T R 0 Z)),I J at_,I J d] w fun e f=>DI w R (p+b) c e f
theorem vd0:VD 14 4 ((0:Nat):Int):=fun R p at_ w hR b c h1=>zE R p at_ w hR b c (by omega)
theorem vd1:VD 56 14 ((1:Nat):Int):=fun R p at_ w hR hp b h1=>mQ 0 4 14 (by omega) (by omega) (by omega) vd0 R p at_ w hR (by omega) b (by omega)
theorem vd2:VD 182 44 ((2:Nat):Int):=fun R p at_ w hR hp b h1=>mQ 1 14 56 (by omega) (by omega) (by omega) vd1 R p at_ w hR (by omega) b (by omega)
theorem vd3:VD 560 134 ((3:Nat):Int):=fun R p at_ w hR hp b h1=>mQ 2 44 182 (by omega) (by omega) (by omega) vd2 R p at_ w hR (by omega) b (by omega)
theorem DI.mono {w f:H}{R q q' n b:Nat}{e:Ending}(h:DI w R q n e f)(i:q<=q')(hn:n<=b):DI w R q' b e f:=by obtain⟨L,g,c,h1,h2,j,m,l,p,o,r⟩:=h;exact⟨L,g,c,h1,h2,j,j4 m hn,l,p,j4 o i,r⟩
theorem uY (R p:Nat)(z:Int)(hz:z=0∨z=1)(w:H)(hR:Rd w R p)(hp:p<=29000):Calls Tryz.prog 129 #[.pointer (N (T R 0 Z)),I J 0,I J (2+z)] w fun e b=>DI w R (p+560) 134 e b:=by
 rcases hz with rfl | rfl
 ·exact(vd2 R p 0 w hR (by omega) (by omega) (by omega)).mono fun e b h=>h.mono (by omega) (by omega)
 ·exact vd3 R p 0 w hR (by omega) (by omega) (by omega)
def ST (w:H)(R rb:Nat)(W:H)(q:Nat):Prop:=Rd W R q/\Only R w W/\PB W rb (Y Z 0 0)/\R<w.heap.size/\w.heap.size<=rb
def SC (w:H)(R rb:Nat)(W:H)(q g c:Nat)(L:List I3)(n:Nat):Prop:=ST w R rb W q/\IR W (rb+1) g c L/\L.length<=n/\∀ i∈L,i.2.1.length<=5000
theorem ST.rd {w W:H}{R rb q:Nat}(h:ST w R rb W q):Rd W R q:=h.1
theorem ST.lt {w W:H}{R rb q:Nat}(h:ST w R rb W q):rb<W.heap.size:=h.2.2.1.lt
theorem ST.low {w W W':H}{R rb q:Nat}(h:ST w R rb W q)(hb:Below (rb+1) W W'):ST w R rb W' q:=by obtain⟨h1,h2,c,b,f⟩:=h;exact⟨h1.low hb (by omega),h2.then (hb.mono (by omega)),c.below hb (by omega),b,f⟩
theorem ST.below {w W W':H}{R rb q:Nat}(h:ST w R rb W q)(hb:Below W.heap.size W W'):ST w R rb W' q:=h.low (hb.mono h.lt)
theorem PB.only {w c:H}{b R:Nat}{v:QS}(h:PB w b v)(ho:Only R w c)(hR:b≠R):PB c b v:=(ho.block b h.lt hR).trans h
theorem ST.only {w W W':H}{R rb q q':Nat}(h:ST w R rb W q)(ho:Only R W W')(hR:Rd W' R q'):ST w R rb W' q':=by obtain⟨h1,h2,f,b,c⟩:=h;exact⟨hR,h2.trans ho,f.only ho (by omega),b,c⟩
theorem ST.new {w:H}{R q:Nat}(h:Rd w R q):ST w R w.heap.size (w.alloc (Q #[Y Z 0 0] 43)) q:=by have b:=(q9 w).alloc ly (Q #[Y Z 0 0] 43);exact⟨h.below b ly,Only.of_below b,cM w _,h.lt,j5 _⟩
theorem SC.st {w W:H}{R rb q g c n:Nat}{L:List I3}(h:SC w R rb W q g c L n):ST w R rb W q:=h.1
theorem SC.ir {w W:H}{R rb q g c n:Nat}{L:List I3}(h:SC w R rb W q g c L n):IR W (rb+1) g c L:=h.2.1
theorem SC.len {w W:H}{R rb q g c n:Nat}{L:List I3}(h:SC w R rb W q g c L n):L.length<=n:=h.2.2.1
theorem SC.up {w W:H}{R rb q g c n m:Nat}{L:List I3}(h:SC w R rb W q g c L n)(b:n<=m):SC w R rb W q g c L m:=⟨h.1,h.2.1,j4 h.2.2.1 b,h.2.2.2⟩
theorem SC.below {w W W':H}{R rb q g c n:Nat}{L:List I3}(h:SC w R rb W q g c L n)(hb:Below W.heap.size W W'):SC w R rb W' q g c L n :=
 ⟨h.1.below hb,h.2.1.below hb ly,h.2.2⟩
theorem SC.only {w W W':H}{R rb q q' g c n:Nat}{L:List I3}(h:SC w R rb W q g c L n)(ho:Only R W W')(hR:Rd W' R q'):SC w R rb W' q' g c L n :=
 ⟨h.1.only ho hR,h.2.1.only ho (by have:=h.1.2.2.2;omega),h.2.2⟩
theorem SC.di {w W W':H}{R rb q q' g c n:Nat}{L:List I3}(h:ST w R rb W q)(b:IR W' W.heap.size g c L)(hn:L.length<=n)(f:∀ i∈L,i.2.1.length<=5000)(ho:Only R W W')(hR:Rd W' R q'):SC w R rb W' q' g c L n :=
 ⟨h.only ho hR,aE b h.lt,hn,f⟩
theorem SC.app {w W W':H}{R rb q g c g' c' n n':Nat}{L M:List I3}(b:Array QS)(h:SC w R rb W q g c L n)(o:IR W' (rb+1) g' c' (L++M))(j:(W.alloc (Q b 146)).grownBy W' (N g))(hn:n+M.length<=n')(f:∀ i∈M,i.2.1.length<=5000):SC w R rb W' q g' c' (L++M) n':=by
 have m:=h.1.lt;have l:=bg ((eL (rb+1) W).alloc m (Q b 146)) j (by simp;omega) (fun k e=>by have:=h.2.1.lt;simp at e;omega);refine⟨h.1.low l,o,by rw[a8];have:=h.len;omega,fun i hi=>?_⟩;rcases hU.1 hi with hi | hi
 ·exact h.2.2.2 i hi
 ·exact f i hi
theorem IR.new (W:H)(b:Nat)(hb:b<=W.heap.size)(L:List I3)(c:Array QS)(f:c.toList=i3L L)(n:Nat)(hn:n=L.length)(hm:n<=100000):IR (W.alloc (Q c 146)) b W.heap.size n L:=by
 subst hn;have hz:c.size=L.length*3:=by rw[<-jr,<-f,L9]
 refine⟨jr L,.inr ⟨W.heap.size,L.length,c,rfl,hb,cM W _,j5 _,by unfold maxLen;omega,hz,?_⟩⟩;rw[f,J6 (by rw[jr];omega)]
theorem SC.lit {w W:H}{R rb q:Nat}(h:ST w R rb W q)(L:List I3)(b:Array QS)(f:b.toList=i3L L)(n:Nat)(hn:n=L.length)(g:n<=100000)(c:∀ i∈L,i.2.1.length<=5000):SC w R rb (W.alloc (Q b 146)) q W.heap.size n L n :=
 ⟨h.below (br.alloc ly _),IR.new W (rb+1) h.lt L b f n hn g,by omega,c⟩
theorem SC.fin {w W:H}{R rb q g c n:Nat}{L:List I3}(h:SC w R rb W q g c L n)(v:QS):PB (W.setCell (T rb 0 Z) v) rb v/\IR (W.setCell (T rb 0 Z) v) w.heap.size g c L/\L.length<=n/\(∀ i∈L,i.2.1.length<=5000)/\Rd (W.setCell (T rb 0 Z) v) R q/\Only R w (W.setCell (T rb 0 Z) v):=by obtain⟨⟨h1,h2,f,l,j⟩,m,o,b⟩:=h;have B:=(eL w.heap.size W).setCell (p:=(T rb 0 Z)) j v;exact⟨f.set v,aE (BV m (by omega) v) (by omega),o,b,h1.low B l,h2.then B⟩
def DP (w:H)(R q lo n:Nat)(e:Ending)(w':H):Prop:=∃ (L:List I3) (g c:Nat),e=QU (.agg #[Y (N (T g 0 Z)) L.length c])/\IR w' w.heap.size g c L/\lo<=L.length/\L.length<=n/\(∀ i∈L,i.2.1.length<=5000)/\∃ q':Nat,q'<=q/\Rd w' R q'/\Only R w w'
theorem gG {fn:Func}{p:Tmp}(h:fn.results=#[.cell p 43])(tmps:Array QS)(w:H)(g:Nat)(v:QS)(b:tmps.getD p undef=.pointer (N (T g 0 Z)))(c:PB w g v):(results fn tmps).run Tryz.prog w=.ok (.agg #[v]) w :=
 results_cell_row h tmps w g 43 #[v] (0,0) _ b c Tryz.underlying43 rfl uX
def dA (L:List I3)(i:Nat):Ins:=⟨(L.getD i (0,[],0)).1,⟨(L.getD i (0,[],0)).2.1.toArray⟩,(L.getD i (0,[],0)).2.2⟩
theorem zF:∀ (L:List I3) (i:Nat),i<L.length->(i3L L)[i*3]?=N (I J (dA L i).op)/\(i3L L)[i*3+1]?=N (U (dA L i).s)/\(i3L L)[i*3+2]?=N (I J (dA L i).n)
 | [],i,h=>by simp at h
 | x :: L,0,_=>⟨rfl,rfl,rfl⟩
 | x :: L,i+1,h=>by
  have f:=zF L i (by simpa using h);have b:(i3V x).length=3:=rfl;have e:∀ k,(i3L (x :: L))[(i+1)*3+k]?=(i3L L)[i*3+k]?:=fun k=>by show(i3V x++i3L L)[(i+1)*3+k]?=_;rw[p8 (by rw[b];omega),b,show(i+1)*3+k - 3=i*3+k by omega]
  have c:=e 0;rw[KJ,KJ] at c;rw[c,e 1,e 2];exact f
theorem IR.at {w:H}{b g c:Nat}{L:List I3}(h:IR w b g c L):∀ i,i<L.length->AtIns w g 0 i (dA L i):=by intro i hi;obtain⟨f,h1,h2⟩:=zF L i hi;have c0:=h.news _ _ f;have c1:=h.news _ _ h1;have c2:=h.news _ _ h2;rw[gF] at c0 c1 c2;exact⟨c0,c1,c2⟩
theorem Et {L:List I3}(b:∀ i∈L,i.2.1.length<=5000):∀ i,i<L.length->(dA L i).s.size<=maxLen:=by
 intro i hi;have h:=b L[i] (gj hi);have e:L.getD i (0,[],0)=L[i]:=by simp[hi]
 show(L.getD i (0,[],0)).2.1.toArray.size<=maxLen;rw[e,LC];unfold maxLen;omega
theorem uZ (n:Nat)(w:H)(hn:(n:Int)<=300):Calls Tryz.prog 131 #[I J n] w fun e o=>∃ (L:List I3) (g:Nat),e=QU (Y (N (T g 0 Z)) 7 7)/\IR o w.heap.size g 7 L/\L.length=7/\(∀ i∈L,i.2.1.length<=5000)/\Below w.heap.size w o:=by
 go_enter Tryz.func131,Tryz.ntmps131;go_wp2_with fail;refine(eG ⟨#[97,32]⟩ n _ (by show 2*n<=4000;omega) (by omega)).mono ?_;rintro e Wx ⟨t,rfl,f,p⟩;rw[p];have u:t.size<=5000:=j4 f (by show 2*n<=5000;omega);clear f p;go_wp2_with fail;refine(bE t _).mono ?_;rintro e W1 ⟨rfl,b⟩;have h:=ae (b);clear b;go_wp2_with fail;refine(bs 7 _).mono ?_;rintro e W2 ⟨rfl,b⟩;have q:=ae (h.trans (b.mono h.size));clear b;go_wp2_with fail;refine(bO 5 0 _).mono ?_;rintro e W3 ⟨rfl,b⟩;have r:=ae (q.trans (b.mono q.size));clear b;go_wp2_with fail;refine(bs 13 _).mono ?_;rintro e W4 ⟨rfl,b⟩;have l:=ae (r.trans (b.mono r.size));clear b;go_wp2_with fail;refine(bs 9 _).mono ?_;rintro e W5 ⟨rfl,b⟩;have m:=ae (l.trans (b.mono l.size));clear b;go_wp2_with fail;refine(bO 4 2 _).mono ?_;rintro e W6 ⟨rfl,b⟩;have j:=ae (m.trans (b.mono m.size));clear b;go_wp2_with fail;refine(bO 10 1 _).mono ?_;rintro e s ⟨rfl,b⟩;have c:=ae (j.trans (b.mono j.size));clear b;go_wp2;go_ret;refine⟨[(1,t.data.toList,0),(7,[],0),(5,[],0),(13,[],0),(9,[],0),(4,[],2),(10,[],1)],_,rfl,IR.new s _ c.size _ _ rfl _ rfl (by omega),rfl,?_,c.alloc c.size _⟩;intro i hi;simp only[nD,nj,MA] at hi;rcases hi with rfl | rfl | rfl | rfl | rfl | rfl | rfl
 ·show t.data.toList.length<=5000
  rw[L9];exact u
 all_goals exact AI _
theorem fT (R p:Nat)(w:H)(hR:Rd w R p)(hp:p<=20000):Calls Tryz.prog 82 #[.pointer (N (T R 0 Z))] w fun e w'=>DP w R (p+600) 1 140 e w':=by
 have E:=ae (ST.new hR);clear hR;go_enter Tryz.func82,Tryz.ntmps82;go_wp2_with fail;generalize w.alloc (Q #[Y Z 0 0] 43)=W0 at E ⊢;refine(aw R _ 2 _ E.rd (by omega) (by omega) (by omega)).mono ?_;rintro e W1 ⟨d,rfl,Q0,d1,hR,h⟩;have M:=ae (E.only h hR);clear h hR E;go_wp2_with fail;refine(uY R _ d (by omega) _ M.rd (by omega)).mono ?_;rintro e W2 ⟨L,g,c,rfl,l,W,hn,B,S,hq2,hR,h⟩;have C:Hid (SC w R w.heap.size W2 S g c L 134):=SC.di M l hn B h hR;clear h hR l B W hn M;go_wp2_with fail;refine(aw R _ 24 _ C.st.rd (by omega) (by omega) (by omega)).mono ?_;rintro e f ⟨z,rfl,z0,z1,hR,h⟩;replace C:=ae (C.only h hR);clear h hR;go_upto_if 13 with fail;go_cut [3] (fun m j=>∃ (L:List I3) (g c q:Nat),m=Y (N (T g 0 Z)) L.length c/\q<=S+2/\Hid (SC w R w.heap.size j q g c L 135));case first =>
  rcases(show z=0∨z=1∨z=2∨3<=z by omega) with rfl | rfl | rfl | h3
  ·iterate 1
    go_wp2_with fail;first | (with_reducible refine(bs _ _).mono ?_) | (with_reducible refine(bO _ _ _).mono ?_) | (with_reducible refine(bE _ _).mono ?_)
    rintro e f ⟨rfl,b⟩;replace C:=ae (C.below b);clear b
   have X:=ae (C.below ((q9 f).alloc ly (Q #[I J 14,U ⟨#[]⟩,I J 0] 146)));have ln:=C.len;go_wp2_with (at_builtin;refine ip rfl (.tmp 14) (.tmp 16) rfl (w.heap.size+1) g c L (by simp[Act.eval]) X.ir (T f.heap.size 0 Z) 1 1 [(14,[],0)] (by simp[Act.eval]) rfl (by simp) (fF f #[I J 14,U ⟨#[]⟩,I J 0] _) (by simp only[z8,IS];omega) (by have:=C.st.lt;simp;omega) ?_;intro D c1 K l s);go_meet;exact⟨_,D,c1,_,by simp,by omega,(C.app (n':=135) _ l s (by show 134+1<=135;omega) (fun i hi=>by rw[eT.1 hi];exact AI _))⟩
  ·iterate 1
    go_wp2_with fail;first | (with_reducible refine(bs _ _).mono ?_) | (with_reducible refine(bO _ _ _).mono ?_) | (with_reducible refine(bE _ _).mono ?_)
    rintro e f ⟨rfl,b⟩;replace C:=ae (C.below b);clear b
   have X:=ae (C.below ((q9 f).alloc ly (Q #[I J 10,U ⟨#[]⟩,I J 0] 146)));have ln:=C.len;go_wp2_with (at_builtin;refine ip rfl (.tmp 20) (.tmp 22) rfl (w.heap.size+1) g c L (by simp[Act.eval]) X.ir (T f.heap.size 0 Z) 1 1 [(10,[],0)] (by simp[Act.eval]) rfl (by simp) (fF f #[I J 10,U ⟨#[]⟩,I J 0] _) (by simp only[z8,IS];omega) (by have:=C.st.lt;simp;omega) ?_;intro D c1 K l s);go_meet;exact⟨_,D,c1,_,by simp,by omega,(C.app (n':=135) _ l s (by show 134+1<=135;omega) (fun i hi=>by rw[eT.1 hi];exact AI _))⟩
  ·go_wp2_with fail
   refine(aw R _ 15 _ C.st.rd (by omega) (by omega) (by omega)).mono ?_;rintro e f ⟨y,rfl,QX,Q2,hR,h⟩;replace C:=ae (C.only h hR);clear h hR
   iterate 1
    go_wp2_with fail;first | (with_reducible refine(bs _ _).mono ?_) | (with_reducible refine(bO _ _ _).mono ?_) | (with_reducible refine(bE _ _).mono ?_)
    rintro e f ⟨rfl,b⟩;replace C:=ae (C.below b);clear b
   have X:=ae (C.below ((q9 f).alloc ly (Q #[I J (1+y),U ⟨#[]⟩,I J 0] 146)));have ln:=C.len;go_wp2_with (at_builtin;refine ip rfl (.tmp 26) (.tmp 31) rfl (w.heap.size+1) g c L (by simp[Act.eval]) X.ir (T f.heap.size 0 Z) 1 1 [((1+y),[],0)] (by simp[Act.eval]) rfl (by simp) (fF f #[I J (1+y),U ⟨#[]⟩,I J 0] _) (by simp only[z8,IS];omega) (by have:=C.st.lt;simp;omega) ?_;intro D c1 K l s);go_meet;exact⟨_,D,c1,_,by simp,by omega,(C.app (n':=135) _ l s (by show 134+1<=135;omega) (fun i hi=>by rw[eT.1 hi];exact AI _))⟩
  ·have n0:(z == 0)=QQ:=by simp;omega
   have n1:(z == 1)=QQ:=by simp;omega
   have n2:(z == 2)=QQ:=by simp;omega
   go_wp2;go_meet;exact⟨L,g,c,_,rfl,by omega,C.up (by omega)⟩
 case rest =>
 clear C;obtain⟨G,g0,c0,q3,rfl,hq3,C⟩:=hcut
 iterate 1
  go_wp2_with fail;first | (with_reducible refine(bs _ _).mono ?_) | (with_reducible refine(bO _ _ _).mono ?_) | (with_reducible refine(bE _ _).mono ?_)
  rintro e f ⟨rfl,b⟩;replace C:=ae (C.below b);clear b
 have X:=ae (C.below ((q9 f).alloc ly (Q #[I J 15,U ⟨#[]⟩,I J 0] 146)));have ln:=C.len;go_upto_if 38 with (at_builtin;refine ip rfl (.tmp 33) (.tmp 35) rfl (w.heap.size+1) g0 c0 G (by simp[Act.eval]) X.ir (T f.heap.size 0 Z) 1 1 [(15,[],0)] (by simp[Act.eval]) rfl (by simp) (fF f #[I J 15,U ⟨#[]⟩,I J 0] _) (by simp only[z8,IS];omega) (by have:=C.st.lt;simp;omega) ?_;intro g c K l s);replace C:=ae (C.app (n':=136) _ l s (by show 135+1<=136;omega) (fun i hi=>by rw[eT.1 hi];exact AI _));clear l s X ln;generalize hL:G++[(15,[],0)]=L at C;have hn1:G.length+1=L.length:=by rw[<-hL,a8];rfl
 rw[hn1];clear hL hn1;go_cut [3] (fun m j=>∃ (L:List I3) (g c q:Nat),m=Y (N (T g 0 Z)) L.length c/\q<=q3/\Hid (SC w R w.heap.size j q g c L 140));case first =>
  by_cases hz:z=3
  ·subst hz
   iterate 4
    go_wp2_with fail;first | (with_reducible refine(bs _ _).mono ?_) | (with_reducible refine(bO _ _ _).mono ?_) | (with_reducible refine(bE _ _).mono ?_)
    rintro e f ⟨rfl,b⟩;replace C:=ae (C.below b);clear b
   have A:=ae (SC.lit C.st [(1,[97,98,99,100,101,102,103,104],0),(7,[],0),(2,[],0),(10,[],1)] #[I J 1,U ⟨#[97,98,99,100,101,102,103,104]⟩,I J 0,I J 7,U ⟨#[]⟩,I J 0,I J 2,U ⟨#[]⟩,I J 0,I J 10,U ⟨#[]⟩,I J 1] rfl 4 rfl (by omega) (by decide));go_wp2;go_meet;exact⟨_,_,_,_,rfl,by omega,A.up (by omega)⟩
  ·go_wp2
   go_meet;exact⟨L,g,c,_,rfl,by omega,C.up (by omega)⟩
 case rest =>
 clear C;obtain⟨L,g,c,q4,rfl,hq4,C⟩:=hcut;go_upto_if 45 with fail;go_cut [3] (fun m j=>∃ (L:List I3) (g c q:Nat),m=Y (N (T g 0 Z)) L.length c/\q<=q4+1/\Hid (SC w R w.heap.size j q g c L 140));case first =>
  by_cases hz:z=4
  ·subst hz
   go_wp2_with fail;refine(dN R _ _ C.st.rd (by omega)).mono ?_;rintro e f ⟨t,rfl,QZ,hR,h⟩;replace C:=ae (C.only h hR);clear h hR
   iterate 4
    go_wp2_with fail;first | (with_reducible refine(bs _ _).mono ?_) | (with_reducible refine(bO _ _ _).mono ?_) | (with_reducible refine(bE _ _).mono ?_)
    rintro e f ⟨rfl,b⟩;replace C:=ae (C.below b);clear b
   have A:=ae (SC.lit C.st [(1,t.data.toList,0),(13,[],0),(9,[],0),(10,[],0)] #[I J 1,U t,I J 0,I J 13,U ⟨#[]⟩,I J 0,I J 9,U ⟨#[]⟩,I J 0,I J 10,U ⟨#[]⟩,I J 0] rfl 4 rfl (by omega) (fl (by omega) (by decide)));go_wp2;go_meet;exact⟨_,_,_,_,rfl,by omega,A.up (by omega)⟩
  ·go_wp2
   go_meet;exact⟨L,g,c,_,rfl,by omega,C.up (by omega)⟩
 case rest =>
 clear C;obtain⟨L,g,c,q5,rfl,hq5,C⟩:=hcut;go_upto_region 14 with fail;go_cut [59] (fun sb j=>∃ (u:Bool) (q:Nat),sb=QT u/\q<=q5+1/\Hid (SC w R w.heap.size j q g c L 140));case first =>
  by_cases hz:z=7
  ·subst hz
   go_wp2_with fail;refine(aw R _ 3 _ C.st.rd (by omega) (by omega) (by omega)).mono ?_;rintro e f ⟨x,rfl,x0,x1,hR,h⟩;replace C:=ae (C.only h hR);clear h hR;go_wp2;go_meet;exact⟨_,_,rfl,by omega,C⟩
  ·go_wp2
   go_meet;exact⟨_,_,rfl,by omega,C⟩
 case rest =>
 clear C;obtain⟨u,V,rfl,hq5b,C⟩:=hcut;go_upto_if 59 with fail;go_cut [3] (fun m j=>∃ (L:List I3) (g c q:Nat),m=Y (N (T g 0 Z)) L.length c/\q<=V+1/\Hid (SC w R w.heap.size j q g c L 140));case first =>
  cases u with
  | false =>go_wp2;go_meet;exact⟨L,g,c,_,rfl,by omega,C⟩
  | true =>
   go_wp2_with fail;refine(aw R _ 2 _ C.st.rd (by omega) (by omega) (by omega)).mono ?_;rintro e f ⟨y,rfl,QX,Q2,hR,h⟩;replace C:=ae (C.only h hR);clear h hR;go_wp2_with fail;obtain⟨m0,r⟩:∃ m0:Nat,499+y=(m0:Int):=⟨(499+y).toNat,by omega⟩
   rw[r];refine(eG ⟨#[120]⟩ m0 _ (by show 1*m0<=4000;omega) (by omega)).mono ?_;rintro e Wm ⟨t,rfl,QZ,QY⟩;rw[QY];have QW:t.size<=5000:=j4 QZ (by show 1*m0<=5000;omega);clear QZ r QY
   iterate 6
    go_wp2_with fail;first | (with_reducible refine(bs _ _).mono ?_) | (with_reducible refine(bO _ _ _).mono ?_) | (with_reducible refine(bE _ _).mono ?_)
    rintro e f ⟨rfl,b⟩;replace C:=ae (C.below b);clear b
   have A:=ae (SC.lit C.st [(1,t.data.toList,0),(7,[],0),(11,[],5),(4,[],1),(10,[],1),(9,[],0)] #[I J 1,U t,I J 0,I J 7,U ⟨#[]⟩,I J 0,I J 11,U ⟨#[]⟩,I J 5,I J 4,U ⟨#[]⟩,I J 1,I J 10,U ⟨#[]⟩,I J 1,I J 9,U ⟨#[]⟩,I J 0] rfl 6 rfl (by omega) (fl QW (by decide)));go_wp2;go_meet;exact⟨_,_,_,_,rfl,by omega,A.up (by omega)⟩
 case rest =>
 clear C;obtain⟨L,g,c,q6,rfl,hq6,C⟩:=hcut;go_upto_region 16 with fail;go_cut [77] (fun sb j=>∃ (u:Bool) (q:Nat),sb=QT u/\q<=q6+1/\Hid (SC w R w.heap.size j q g c L 140));case first =>
  by_cases hz:z=6
  ·subst hz
   go_wp2_with fail;refine(aw R _ 3 _ C.st.rd (by omega) (by omega) (by omega)).mono ?_;rintro e f ⟨x,rfl,x0,x1,hR,h⟩;replace C:=ae (C.only h hR);clear h hR;go_wp2;go_meet;exact⟨_,_,rfl,by omega,C⟩
  ·go_wp2
   go_meet;exact⟨_,_,rfl,by omega,C⟩
 case rest =>
 clear C;obtain⟨u,P,rfl,hq6b,C⟩:=hcut;go_upto_if 77 with fail;go_cut [3] (fun m j=>∃ (L:List I3) (g c q:Nat),m=Y (N (T g 0 Z)) L.length c/\q<=P+1/\Hid (SC w R w.heap.size j q g c L 140));case first =>
  cases u with
  | false =>go_wp2;go_meet;exact⟨L,g,c,_,rfl,by omega,C⟩
  | true =>
   go_wp2_with fail;refine(aw R _ 3 _ C.st.rd (by omega) (by omega) (by omega)).mono ?_;rintro e f ⟨y,rfl,QX,Q2,hR,h⟩;replace C:=ae (C.only h hR);clear h hR;go_wp2_with fail;obtain⟨m0,r⟩:∃ m0:Nat,200+y - 1=(m0:Int):=⟨(200+y - 1).toNat,by omega⟩
   rw[r];refine(uZ m0 _ (by omega)).mono ?_;rintro e W8 ⟨LW,gW,rfl,l,lq,B,b⟩;have C8:=ae (SC.di C.st l (n:=140) (by omega) B (Only.of_below b) (C.st.rd.below b ly));clear l B b r;go_wp2;go_meet;exact⟨LW,gW,7,_,by rw[lq],by omega,C8⟩
 case rest =>
 clear C;obtain⟨L,g,c,q7,rfl,hq7,C⟩:=hcut;go_upto_if 84 with fail;go_cut [3] (fun m j=>∃ (L:List I3) (g c q:Nat),m=Y (N (T g 0 Z)) L.length c/\q<=q7/\Hid (SC w R w.heap.size j q g c L 140));case first =>
  by_cases hz:z=5
  ·subst hz
   iterate 2
    go_wp2_with fail;first | (with_reducible refine(bs _ _).mono ?_) | (with_reducible refine(bO _ _ _).mono ?_) | (with_reducible refine(bE _ _).mono ?_)
    rintro e f ⟨rfl,b⟩;replace C:=ae (C.below b);clear b
   have A:=ae (SC.lit C.st [(1,[115],0),(10,[],0)] #[I J 1,U ⟨#[115]⟩,I J 0,I J 10,U ⟨#[]⟩,I J 0] rfl 2 rfl (by omega) (by decide));go_wp2;go_meet;exact⟨_,_,_,_,rfl,by omega,A.up (by omega)⟩
  ·go_wp2
   go_meet;exact⟨L,g,c,_,rfl,by omega,C.up (by omega)⟩
 case rest =>
 clear C;obtain⟨L,g,c,q8,rfl,hq8,C⟩:=hcut;have ln:=C.len;have ge:=C.ir.lt;go_wp2_with fail;refine(fY g 0 L.length c (dA L) _ (by omega) ge.2 (fun i hi=>C.ir.at i (by omega)) (fun i hi=>Et C.2.2.2 i (by omega))).mono ?_;rintro e Wv ⟨rfl,b⟩;have ZA:=ae (C.below b);clear b;cases hv:valid (dA L) L.length with
 | true =>
  have vp:=(cJ hv).2.1;clear hv;have o:=ZA.st.2.2.1;have zl:=o.lt;have Q0:=o.c0;have d1:=o.fz 0;have fin:=ae (ZA.fin (Y (N (T g 0 Z)) L.length c));clear o;go_wp2;obtain⟨f1,F,f3,ZB,O,Q9⟩:=fin.out;try simp only[Exit.inBlock,Exit.then]
  refine bp (gG rfl _ _ w.heap.size _ rfl f1) rfl ?_;exact⟨L,g,c,rfl,F,by omega,by omega,ZB,q8,by omega,O,Q9⟩
 | false =>
  clear hv;replace C:=ZA
  iterate 2
   go_wp2_with fail;first | (with_reducible refine(bs _ _).mono ?_) | (with_reducible refine(bO _ _ _).mono ?_) | (with_reducible refine(bE _ _).mono ?_)
   rintro e f ⟨rfl,b⟩;replace C:=ae (C.below b);clear b
  have CC:=ae (SC.lit C.st [(1,[120],0),(15,[],0)] #[I J 1,U ⟨#[120]⟩,I J 0,I J 15,U ⟨#[]⟩,I J 0] rfl 2 rfl (by omega) (by decide));have o:=CC.st.2.2.1;have zl:=o.lt;have Q0:=o.c0;have d1:=o.fz 0;have fin:=ae (CC.fin (Y (N (T f.heap.size 0 Z)) 2 2));clear o;go_wp2;obtain⟨f1,F,f3,ZB,O,Q9⟩:=fin.out;try simp only[Exit.inBlock,Exit.then]
  refine bp (gG rfl _ _ w.heap.size _ rfl f1) rfl ?_;exact⟨[(1,[120],0),(15,[],0)],f.heap.size,2,rfl,F,by simp,by simp,ZB,q8,by omega,O,Q9⟩
theorem tA:∀ (L:List I3) (i:Nat) (y:I3) (j:Nat) (v:QS),j<3->i<L.length->i3V y=(i3V (L.getD i (0,[],0))).set j v->i3L (L.set i y)=(i3L L).set (i*3+j) v
 | [],i,y,j,v,_,h,_=>by simp at h
 | x :: L,0,y,j,v,hj,_,e=>by show i3V y++i3L L=(i3V x++i3L L).set (0*3+j) v;rw[PS _ _ (by show 0*3+j<3;omega),OT,DN];rw[show i3V y=(i3V x).set j v from e]
 | x :: L,i+1,y,j,v,hj,h,e=>by have c:=tA L i y j v hj (by simpa using h) e;have b:(i3V x).length=3:=rfl;show i3V x++i3L (L.set i y)=(i3V x++i3L L).set ((i+1)*3+j) v;rw[c,NI _ _ (by rw[b];omega),b,show(i+1)*3+j - 3=i*3+j by omega]
theorem IR.set3 {w:H}{b g c:Nat}{L:List I3}(h:IR w b g c L){i j:Nat}(hi:i<L.length)(p:j<3)(y:I3)(v:QS)(e:i3V y=(i3V (L.getD i (0,[],0))).set j v):IR (w.setCell (T g (i*3+j) Z) v) b g c (L.set i y):=by
 unfold IR;rw[JO,tA L i y j v p hi e];refine⟨by rw[JO];exact h.1,?_⟩;rcases h.2 with ⟨f,h0⟩ | ⟨g',cap,l,f,hb,n,h1,h2,m,o⟩
 ·simp at f
 ·simp only[I5,JL,NG] at f
  obtain⟨⟨rfl,-⟩,-,rfl⟩:=f;refine .inr ⟨g,c,l.setIfInBounds (i*3+j) v,rfl,hb,?_,h1,h2,by simpa using m,?_⟩
  ·simp[World.setCell,JR,n]
  ·rw[MJ,QO,o]
theorem IR.take {w:H}{b g c:Nat}{L:List I3}(h:IR w b g c L)(k:Nat)(i:k<=L.length):IR w b g c (L.take k):=by
 have e:i3L (L.take k)=(i3L L).take (k*3):=by
  have h1:i3L L=i3L (L.take k)++i3L (L.drop k):=by rw[<-vX,LJ]
  have h2:(i3L (L.take k)).length=k*3:=by rw[jr,JY,LE i]
  rw[h1,<-h2,List.take_left'];rfl
 have m:(L.take k).length=k:=by rw[JY,LE i]
 unfold IR;rw[e,m];refine⟨by rw[JY,h.1,LE (by omega)],?_⟩;rcases h.2 with ⟨f,h0⟩ | ⟨g',cap,j,f,hb,n,h1,h2,l,o⟩
 ·simp at f
 ·simp only[I5,JL,NG] at f
  obtain⟨⟨rfl,-⟩,-,rfl⟩:=f;refine .inr ⟨g,c,j,rfl,hb,n,by omega,h2,l,?_⟩;rw[<-o,List.take_take,LE (by omega)]
theorem IR.fz {w:H}{f g c:Nat}{L:List I3}(h:IR w f g c L)(j:Nat):w.frozen? (T g j Z)=QQ:=by
 rcases h.2 with ⟨b,_⟩ | ⟨g',cap,cur,b,_,i,_⟩
 ·simp at b
 ·simp only[I5,JL,NG] at b
  obtain⟨⟨rfl,-⟩,-,rfl⟩:=b;exact QL i _
theorem SC.set3 {w W:H}{R rb q g c n:Nat}{L:List I3}(h:SC w R rb W q g c L n){i j:Nat}(hi:i<L.length)(l:j<3)(y:I3)(v:QS)(e:i3V y=(i3V (L.getD i (0,[],0))).set j v)(f:y.2.1.length<=5000):SC w R rb (W.setCell (T g (i*3+j) Z) v) q g c (L.set i y) n:=by
 have B:=(eL (rb+1) W).setCell (p:=(T g (i*3+j) Z)) h.ir.lt.1 v;refine⟨h.1.low B,h.ir.set3 hi l y v e,by rw[JO];exact h.len,fun x b=>?_⟩;rcases J7 b with h1 | h1
 ·exact h.2.2.2 x h1
 ·rw[h1];exact f
theorem SC.take {w W:H}{R rb q g c n:Nat}{L:List I3}(h:SC w R rb W q g c L n)(k:Nat)(b:k<=L.length):SC w R rb W q g c (L.take k) n :=
 ⟨h.1,h.ir.take k b,by rw[JY];have:=h.len;omega,fun i hi=>h.2.2.2 i (LU hi)⟩
theorem SC.app0 {w W W':H}{R rb q g c g' c' n n':Nat}{L M:List I3}(h:SC w R rb W q g c L n)(l:IR W' (rb+1) g' c' (L++M))(f:W.grownBy W' (N g))(hn:L.length+M.length<=n')(b:∀ i∈M,i.2.1.length<=5000):SC w R rb W' q g' c' (L++M) n':=by
 have hl:=h.1.lt;have j:=bg (eL (rb+1) W) f (by omega) (fun k e=>by have:=h.2.1.lt;simp at e;omega);refine⟨h.1.low j,l,by rw[a8];omega,fun i hi=>?_⟩;rcases hU.1 hi with hi | hi
 ·exact h.2.2.2 i hi
 ·exact b i hi
theorem SC.mono {w W:H}{R rb q g c n b:Nat}{L:List I3}(h:SC w R rb W q g c L n)(hn:L.length<=b):SC w R rb W q g c L b:=⟨h.1,h.2.1,hn,h.2.2.2⟩
theorem SC.text {w W:H}{R rb q g c n:Nat}{L:List I3}(h:SC w R rb W q g c L n)(i:Nat)(hi:i<L.length):(L.getD i (0,[],0)).2.1.length<=5000:=by
 have e:L.getD i (0,[],0)=L[i]:=by simp[hi]
 rw[e];exact h.2.2.2 _ (gj hi)
theorem rq {w:H}{R q:Nat}(h:Rd w R q)(v:QS):SC w R (w.heap.size+1) (((w.alloc (Q #[v] 43)).alloc (Q #[Y Z 0 0] 43)).alloc (Q #[] 146)) q (w.heap.size+2) 0 [] 0:=by
 have f:=(q9 w).alloc ly (Q #[v] 43);have c:=f.alloc f.size (Q #[Y Z 0 0] 43);have b:=c.alloc c.size (Q #[] 146);have hz:((w.alloc (Q #[v] 43)).alloc (Q #[Y Z 0 0] 43)).heap.size=w.heap.size+2:=by simp
 have ZA:=IR.lit ((w.alloc (Q #[v] 43)).alloc (Q #[Y Z 0 0] 43));rw[hz] at ZA;refine⟨⟨h.below b ly,Only.of_below b,?_,h.lt,by omega⟩,ZA,j5 _,fun i hi=>by cases hi⟩;show _=_;rw[MI _ _ (by simp)];exact LH w _ _
end Go.Proofs.YtamacmnikdejeaaGreatDoor.Vp
