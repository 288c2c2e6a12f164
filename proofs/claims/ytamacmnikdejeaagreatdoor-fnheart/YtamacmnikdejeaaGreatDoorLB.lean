import Derived.Test.YtamacmnikdejeaaGreatDoorLA
import Derived.Deep.DeepCutAuto
set_option maxRecDepth 100000
set_option maxHeartbeats 8000000
set_option linter.unusedSimpArgs false
open Go renaming Addr.mk->Q,Value.slice->Y,Value.string->U,Value.int->J,Value.bool->ZC,Obj.cells->N,IntKind.i64->I,World->E,Value->ZB,Ending.returned->ZF,World.heap->B,Proofs.Tryz.prog->Pg
open Option renaming none->Z,some->T
open Bool renaming false->ZA
open Array renaming size->A
namespace Go.Proofs.YtamacmnikdejeaaGreatDoor.Vp
open Tryz RowKit
variable {b f m n' i j:Nat}
theorem ey{t:ByteArray}{n:Int}(b:t.size<=5000){M:List I3}(hM:∀i∈M,i.2.1.length<=5000):∀i∈(1,t.data.toList,n)::M,i.2.1.length<=5000:=by
 intro i hi;rcases A9.1 hi with rfl|hi;{show t.data.toList.length<=5000;rw[NO];exact b};{exact hM i hi}
structure VS (w:E)(R:Nat)(W:E)(q g c:Nat)(L:List I3)(n:Nat):Prop where
 rd:Rd W R q
 o:Only R w W
 ir:IR W (A (B w)) g c L
 tx:∀i∈L,i.2.1.length<=5000
 lo:R<A (B w)
 le:L.length<=n
section
variable {w W W':E}{R q q' g c g' c' n:Nat}{L M:List I3}
theorem VS.ac (h:VS w R W q g c L n)(b:Only R W W')(hR:Rd W' R q'):VS w R W' q' g c L n:=⟨hR,h.o.trans b,h.ir.ac b h.lo,h.tx,h.lo,h.le⟩
theorem VS.aa (h:VS w R W q g c L n)(b:Below (A (B W)) W W'):VS w R W' q g c L n:=h.ac (Only.q b) (h.rd.aa b ly)
theorem VS.low (h:VS w R W q g c L n)(b:Below (A (B w)) W W')(f:IR W' (A (B w)) g' c' M)(hM:∀i∈M,i.2.1.length<=5000):VS w R W' q g' c' M M.length:=⟨h.rd.low b h.lo,h.o.then b,f,hM,h.lo,nX _⟩
theorem VS.join (h:VS w R W q g c L n)(b:IR W' (A (B w)) g' c' (L++M))(f:W.grownBy W' (T g))(hM:∀i∈M,i.2.1.length<=5000):VS w R W' q g' c' (L++M) (L++M).length :=
 h.low (bg (cM (A (B w)) W) f h.o.size (λk e=>by have:=h.ir.lt;simp at e;omega)) b λi hi=>by
  rcases wC.1 hi with hi|hi
  ·exact h.tx i hi
  ·exact hM i hi
theorem VS.add (cs:Array ZB)(h:VS w R W q g c L n)(b:IR W' (A (B w)) g' c' (L++M))(f:(W.alloc (N cs 146)).grownBy W' (T g))(hM:∀i∈M,i.2.1.length<=5000):VS w R W' q g' c' (L++M) (L++M).length :=
 (h.aa (br.alloc ly _)).join b f hM
theorem VS.fin{ZM ZN:Nat}(h:VS w R W q g c L n)(i:m=L.length)(b:L≠[])(hn:L.length<=ZN)(f:q<=ZM):DI w R ZM ZN (ZF (Y (T (Q g 0 Z)) m c)) W :=
 ⟨L,g,c,by rw[i],h.ir,b,hn,h.tx,q,f,h.rd,h.o⟩
end
section
variable {ops:Array Oper}{rest:List Oper}{o:Oper}{a:Act}{ZM:Exit->Act->E->Prop}{w W W':E}{R q g c n:Nat}{L M:List I3}
theorem py (z:o.guard=Z)(s x:Operand)(ZR:o.op=.call { callee:=.builtin .append,args:=#[s,x],argTypes:=#[41,41] })(C:VS w R W q g c L n)(ZS:Below (A (B W)) W W')(t:Addr)(m d:Nat)(ZQ:a.eval s=Y (T (Q g 0 Z)) L.length c)(G:a.eval x=Y (T t) m d)(p:m=M.length)(y:M≠[])(l:∀j u,(i3L M)[j]?=T u->W'.cell? (t.add j)=T u)(hM:∀i∈M,i.2.1.length<=5000)(hlen:L.length+m<=100000)
  (h:∀g' c' b f,Hid (VS w R f q g' c' b b.length)->b.length<=L.length+m->L.length+m<=b.length->wpList Pg ops ZM rest (a.put o.dst (Y (T (Q g' 0 Z)) b.length c')) f):wpList Pg ops ZM (o::rest) a W':=by
 have r:=C.aa ZS;refine fY z s x ZR (A (B w)) g c L ZQ r.ir t m d M G p y l (by omega) r.o.size ?_;intro g' c' f D H;exact h g' c' (L++M) f (r.join D H hM) (by rw[eL,p];exact nX _) (by rw[eL,p];exact nX _)
theorem gH (r:o.guard=Z)(s x:Operand)(u:o.op=.call { callee:=.builtin .append,args:=#[s,x],argTypes:=#[41,41] })(C:VS w R W q g c L n)(M:List I3)(m:Nat){f:Array ZB}(z:a.eval s=Y (T (Q g 0 Z)) L.length c)(ZR:a.eval x=Y (T (Q (A (B W)) 0 Z)) m m)(p:f.toList=i3L M)(y:m=M.length)(l:M≠[])(hM:∀i∈M,i.2.1.length<=5000)(j:L.length+m<=100000)
  (h:∀g' c' b t,Hid (VS w R t q g' c' b b.length)->b.length<=L.length+m->L.length+m<=b.length->wpList Pg ops ZM rest (a.put o.dst (Y (T (Q g' 0 Z)) b.length c')) t):wpList Pg ops ZM (o::rest) a (W.alloc (N f 146)) :=
 py r s x u C (br.alloc ly _) _ m m z ZR y l (p ▸ ew W f _) hM j h
end
theorem ru (r:Int)(ZM nc ZS ZL:Nat)(hd3:r<=11)(hd0:0<=r)(hb:ZM<=44)(hB4:4<=ZS)(hC14:14<=ZL)(fd:0<r->3*ZM+2<=ZS/\3*nc+14<=ZL/\4<=ZM)(bt:0<r->∀(R p:Nat) (at_:Int) (w:E),Rd w R p->p+nc<=30000->0<=at_->at_+(ZM:Int)<=10000->Calls Pg 129 #[.pointer (T (Q R 0 Z)),J I at_,J I (r - 1)] w λe w'=>DI w R (p+nc) ZM e w')
  (R p:Nat) (at_:Int) (w:E) (hR:Rd w R p) (hp:p+ZL<=30000) (ha0:0<=at_) (ha1:at_+(ZS:Int)<=10000) :
  Calls Pg 129 #[.pointer (T (Q R 0 Z)),J I at_,J I r] w λe w'=>DI w R (p+ZL) ZS e w':=by
 have ZK:=ae bt;have A0:=(BS w).alloc ly (N #[] 146);have C:Hid (VS w R (w.alloc (N #[] 146)) p (A (B w)) 0 [] 0):=⟨hR.aa A0 ly,Only.q A0,IR.lit w,λi hi=>(by cases hi),hR.lt,nX _⟩
 clear A0 hR bt;go_enter func129,ntmps129;go_wp2_with fail;generalize World.alloc w _=W0 at C ⊢;refine(ay R _ 12 _ C.rd (by omega) (by omega) (by omega)).mono ?_;rintro e l ⟨z,rfl,z0,z1,hR,b⟩;replace C:=ae (C.ac b hR);clear b hR;go_upto_region 3 with fail;go_cut [19] (λsb wx=>∃K:Bool,sb=ZC K/\(K=true->6<z)/\(K=ZA->6<z->0<r)/\Hid (VS w R wx (p+1) (A (B w)) 0 [] 0));case first =>
  by_cases h2:r<=0;{by_cases h3:6<z;{go_wp2;go_meet;exact⟨true,rfl,λ_=>h3,(λh=>by cases h),C.out⟩};{go_wp2;go_meet;exact⟨ZA,rfl,(λh=>by cases h),λ_ h=>absurd h (by omega),C⟩}};{go_wp2;go_meet;exact⟨ZA,rfl,(λh=>by cases h),λ_ _=>by omega,C.out⟩}
 case rest =>
 clear C;obtain⟨K,rfl,X,aq,C⟩:=hcut;go_upto_if 19 with fail;go_cut [7,8] (λso sk wx=>∃(g c q:Nat) (L:List I3) (k:Int),so=Y (T (Q g 0 Z)) L.length c/\sk=J I k/\0<=k/\k<12/\(6<k->0<r)/\q<=p+1/\Hid (VS w R wx q g c L 0));case first =>
  cases K with
  |true =>
   have h2:=X rfl;have G:IntKind.i64.wrap (z - 6)=z - 6:=by rw[p9];omega
   go_wp2;go_meet;exact⟨_,_,_,[],_,rfl,rfl,by omega,by omega,λh=>by omega,nX _,C⟩
  |false =>have ZI:=ae (aq rfl);go_wp2;go_meet;exact⟨_,_,_,[],_,rfl,rfl,by omega,by omega,ZI,nX _,C⟩
 case rest =>
 clear C;obtain⟨g,c,q,L,k,rfl,rfl,hk0,hk1,ex,hq,C⟩:=hcut;have hL0:=C.le;rcases(show(k=0∨k=1)∨(k=2∨k=3∨k=4∨k=6)∨k=5∨(k=7∨k=8∨k=9∨k=10)∨k=11 by omega) with ZN|ZN|rfl|ZN|rfl
 ·rcases ZN with rfl|rfl;all_goals
   go_wp2_with fail;refine(gG R _ _ C.rd (by omega)).mono ?_;rintro e l ⟨t,rfl,ht,q2,ZJ,hR,b⟩;replace C:=ae (C.ac b hR);clear b hR;go_wp2_with fail;with_reducible first|refine(bm _ _).mono ?_|refine(bQ _ _ _).mono ?_|refine(bw _ _).mono ?_
   rintro e l ⟨rfl,j⟩;replace C:=ae (C.aa j);clear j;go_wp2_with (at_builtin;refine gH rfl _ _ rfl C [(1,t.data.toList,0)] 1 (by simp[Act.eval]) (by simp[Act.eval]) rfl rfl (by simp) (ey (by omega) (by decide)) (by omega) ?_);intro W c1 s V C S u1;go_wp2;go_ret;exact C.fin rfl (LG.1 (by omega)) (by omega) (by omega)
 ·rcases ZN with rfl|rfl|rfl|rfl;all_goals
   go_wp2_with fail;refine(dS R _ _ C.rd (by omega)).mono ?_;rintro e l ⟨t,rfl,ht,hR,b⟩;replace C:=ae (C.ac b hR);clear b hR
   iterate 2
    go_wp2_with fail;with_reducible first|refine(bm _ _).mono ?_|refine(bQ _ _ _).mono ?_|refine(bw _ _).mono ?_
    rintro e l ⟨rfl,j⟩;replace C:=ae (C.aa j);clear j
   go_wp2_with (at_builtin;first|(refine gH rfl _ _ rfl C [(1,t.data.toList,0),(12,[],0)] 2 (by simp[Act.eval]) (by simp[Act.eval]) rfl rfl (by simp) (ey (by omega) (by decide)) (by omega) ?_)|(refine gH rfl _ _ rfl C [(1,t.data.toList,0),(13,[],0)] 2 (by simp[Act.eval]) (by simp[Act.eval]) rfl rfl (by simp) (ey (by omega) (by decide)) (by omega) ?_));intro W c1 s V C S u1;go_wp2;go_ret;exact C.fin rfl (LG.1 (by omega)) (by omega) (by omega)
 ·skip;go_wp2_with fail;refine(dS R _ _ C.rd (by omega)).mono ?_;rintro e l ⟨t,rfl,ht,hR,b⟩;replace C:=ae (C.ac b hR);clear b hR;iterate 2
   go_wp2_with fail;with_reducible first|refine(bm _ _).mono ?_|refine(bQ _ _ _).mono ?_|refine(bw _ _).mono ?_
   rintro e l ⟨rfl,j⟩;replace C:=ae (C.aa j);clear j
  go_wp2_with fail;refine(ay R _ 3 _ C.rd (by omega) (by omega) (by omega)).mono ?_;rintro e l ⟨y,rfl,y0,y1,hR,b⟩;replace C:=ae (C.ac b hR);clear b hR;iterate 2
   go_wp2_with fail;with_reducible first|refine(bm _ _).mono ?_|refine(bQ _ _ _).mono ?_|refine(bw _ _).mono ?_
   rintro e l ⟨rfl,j⟩;replace C:=ae (C.aa j);clear j
  go_wp2_with (at_builtin;refine gH rfl _ _ rfl C [(1,t.data.toList,0),(12,[],0),(5,[],y),(12,[],0)] 4 (by simp[Act.eval]) (by simp[Act.eval]) rfl rfl (by simp) (ey (by omega) (by intro i hi;simp only[A9,nj,NJ] at hi;rcases hi with rfl|rfl|rfl<;>exact IH _)) (by omega) ?_);intro W c1 s V C S u1;go_wp2;go_ret;exact C.fin rfl (LG.1 (by omega)) (by omega) (by omega)
 ·have ZR:=ex (by omega);obtain⟨X,aq,ZI⟩:=fd ZR;rcases ZN with rfl|rfl|rfl|rfl;all_goals
   go_wp2_with fail;refine(ZK ZR R _ at_ _ C.rd (by omega) (by omega) (by omega)).mono ?_;rintro e l ⟨M,ZQ,D,rfl,hM,f,ZP,o,q1,hq1,hR,b⟩;replace C:=ae (C.ac b hR);have ZO:=ae hM.news;have m:=ae o;have n:=ae f;have H:=LG.2 f;clear b hR hM o f;go_wp2_with (at_builtin;refine py rfl _ _ rfl C br (Q ZQ 0 Z) M.length D (by simp[Act.eval]) (by simp[Act.eval]) rfl n ZO m (by omega) ?_);intro W c1 s V C S u1;clear ZO m n
  ·skip;go_wp2_with fail;refine(ZK ZR R _ (at_+(s.length:Int)) _ C.rd (by omega) (by omega) (by omega)).mono ?_;rintro e l ⟨M,ZQ,D,rfl,hM,f,ZP,o,q2,ZJ,hR,b⟩;replace C:=ae (C.ac b hR);have ZO:=ae hM.news;have m:=ae o;have n:=ae f;have H:=LG.2 f;clear b hR hM o f;go_wp2_with (at_builtin;refine py rfl _ _ rfl C br (Q ZQ 0 Z) M.length D (by simp[Act.eval]) (by simp[Act.eval]) rfl n ZO m (by omega) ?_);intro g2 c2 L2 W2 C l2 u2;clear ZO m n;go_wp2_with fail;refine(ay R _ 2 _ C.rd (by omega) (by omega) (by omega)).mono ?_;rintro e l ⟨y,rfl,y0,y1,hR,b⟩;replace C:=ae (C.ac b hR);clear b hR;go_wp2_with fail;with_reducible first|refine(bm _ _).mono ?_|refine(bQ _ _ _).mono ?_|refine(bw _ _).mono ?_
   rintro e l ⟨rfl,j⟩;replace C:=ae (C.aa j);clear j;go_wp2_with (at_builtin;refine gH rfl _ _ rfl C [((2+4*y),[],0)] 1 (by simp[Act.eval]) (by simp[Act.eval]) rfl rfl (by simp) (λi hi=>by rw[hU.1 hi];exact IH _) (by omega) ?_);intro g3 c3 O W3 C l3 u3;go_wp2;go_ret;exact C.fin rfl (LG.1 (by omega)) (by omega) (by omega)
  ·skip;go_wp2_with fail;refine(ay R _ 3 _ C.rd (by omega) (by omega) (by omega)).mono ?_;rintro e l ⟨x,rfl,x0,x1,hR,b⟩;replace C:=ae (C.ac b hR);clear b hR;go_wp2_with fail;refine(ay R _ 4 _ C.rd (by omega) (by omega) (by omega)).mono ?_;rintro e l ⟨y,rfl,y0,y1,hR,b⟩;replace C:=ae (C.ac b hR);clear b hR;go_wp2_with fail;with_reducible first|refine(bm _ _).mono ?_|refine(bQ _ _ _).mono ?_|refine(bw _ _).mono ?_
   rintro e l ⟨rfl,j⟩;replace C:=ae (C.aa j);clear j;go_wp2_with (at_builtin;refine gH rfl _ _ rfl C [((3+x),[],y)] 1 (by simp[Act.eval]) (by simp[Act.eval]) rfl rfl (by simp) (λi hi=>by rw[hU.1 hi];exact IH _) (by omega) ?_);intro g2 c2 L2 W2 C l2 u2;go_wp2;go_ret;exact C.fin rfl (LG.1 (by omega)) (by omega) (by omega)
  all_goals
   go_wp2_with fail;with_reducible first|refine(bm _ _).mono ?_|refine(bQ _ _ _).mono ?_|refine(bw _ _).mono ?_
   rintro e l ⟨rfl,j⟩;replace C:=ae (C.aa j);clear j;go_wp2_with (at_builtin;refine gH rfl _ _ rfl C [(11,[],0)] 1 (by simp[Act.eval]) (by simp[Act.eval]) rfl rfl (by simp) (λi hi=>by rw[hU.1 hi];exact IH _) (by omega) ?_);intro g2 c2 L2 W2 C l2 u2;go_wp2_with fail;refine(ZK ZR R _ (at_+(L2.length:Int)) _ C.rd (by omega) (by omega) (by omega)).mono ?_;rintro e l ⟨M,ZQ,D,rfl,hM,f,ZP,o,q3,hq3,hR,b⟩;replace C:=ae (C.ac b hR);have ZO:=ae hM.news;have m:=ae o;have n:=ae f;have H:=LG.2 f;clear b hR hM o f;go_wp2_with (at_builtin;refine py rfl _ _ rfl C br (Q ZQ 0 Z) M.length D (by simp[Act.eval]) (by simp[Act.eval]) rfl n ZO m (by omega) ?_);intro g3 c3 O W3 C l3 u3;clear ZO m n;go_wp2_with fail;with_reducible first|refine(bm _ _).mono ?_|refine(bQ _ _ _).mono ?_|refine(bw _ _).mono ?_
   rintro e l ⟨rfl,j⟩;replace C:=ae (C.aa j);clear j;go_wp2_with (at_builtin;refine gH rfl _ _ rfl C [(10,[],0)] 1 (by simp[Act.eval]) (by simp[Act.eval]) rfl rfl (by simp) (λi hi=>by rw[hU.1 hi];exact IH _) (by omega) ?_);intro g4 c4 L4 W4 C l4 u4;obtain⟨⟨n0,cn⟩,fz⟩:=C.ir.cellN (i:=s.length) (by omega);have il:(s.length:Int)<(L4.length:Int):=by omega
   have gl:=C.ir.lt.2;go_wp2_with fail;refine(nI _ _).mono ?_;rintro e l ⟨rfl,G⟩;rw[G];clear G;generalize (if 200<at_+(L4.length:Int) then 200 else at_+(L4.length:Int))=sv;obtain⟨L5,hlk,u,P⟩:=C.ir.setN (i:=s.length) (by omega) sv;replace C:=ae (C.low ((cM (A (B w)) W4).setCell (p:=(Q g4 (s.length*3+2) Z)) C.ir.lt.1 (J I sv)) P (u C.tx));go_upto_region 33 with fail;generalize World.setCell W4 _ _=W5 at C ⊢;rw[<-hlk];have b5:=Nat.le_of_eq hlk;have d5:=Nat.le_of_eq hlk.symm;clear hlk u P cn fz gl il;go_wp2_with fail;refine(ZK ZR R _ (at_+(L5.length:Int)) _ C.rd (by omega) (by omega) (by omega)).mono ?_;rintro e l ⟨M,ZQ,D,rfl,hM,f,ZP,o,q6,hq6,hR,b⟩;replace C:=ae (C.ac b hR);have ZO:=ae hM.news;have m:=ae o;have n:=ae f;have H:=LG.2 f;clear b hR hM o f;go_wp2_with (at_builtin;refine py rfl _ _ rfl C br (Q ZQ 0 Z) M.length D (by simp[Act.eval]) (by simp[Act.eval]) rfl n ZO m (by omega) ?_);intro g6 c6 L6 W6 C l6 u6;clear ZO m n;obtain⟨⟨n0,cn⟩,fz⟩:=C.ir.cellN (i:=O.length) (by omega);have il:(O.length:Int)<(L6.length:Int):=by omega
   have gl:=C.ir.lt.2;go_wp2_with fail;refine(nI _ _).mono ?_;rintro e l ⟨rfl,G⟩;rw[G];clear G;generalize (if 200<at_+(L6.length:Int) then 200 else at_+(L6.length:Int))=sv;obtain⟨L7,hlk,u,P⟩:=C.ir.setN (i:=O.length) (by omega) sv;replace C:=ae (C.low ((cM (A (B w)) W6).setCell (p:=(Q g6 (O.length*3+2) Z)) C.ir.lt.1 (J I sv)) P (u C.tx));go_upto_region 35 with fail;generalize World.setCell W6 _ _=W7 at C ⊢;rw[<-hlk];have b7:=Nat.le_of_eq hlk;have d7:=Nat.le_of_eq hlk.symm;clear hlk u P cn fz gl il;go_wp2;go_ret;exact C.fin rfl (LG.1 (by omega)) (by omega) (by omega)
 ·skip;go_wp2_with fail;refine(gG R _ _ C.rd (by omega)).mono ?_;rintro e l ⟨t,rfl,ht,q2,ZJ,hR,b⟩;replace C:=ae (C.ac b hR);clear b hR;iterate 4
   go_wp2_with fail;with_reducible first|refine(bm _ _).mono ?_|refine(bQ _ _ _).mono ?_|refine(bw _ _).mono ?_
   rintro e l ⟨rfl,j⟩;replace C:=ae (C.aa j);clear j
  go_wp2_with (at_builtin;refine gH rfl _ _ rfl C [(1,t.data.toList,0),(7,[],0),(8,[],0),(9,[],0)] 4 (by simp[Act.eval]) (by simp[Act.eval]) rfl rfl (by simp) (ey (by omega) (by decide)) (by omega) ?_);intro W c1 s V C S u1;go_wp2;go_ret;exact C.fin rfl (LG.1 (by omega)) (by omega) (by omega)
theorem zv (R p:Nat)(at_:Int)(w:E)(hR:Rd w R p)(b:p+14<=30000)(g:0<=at_)(h1:at_+4<=10000):Calls Pg 129 #[.pointer (T (Q R 0 Z)),J I at_,J I 0] w λe f=>DI w R (p+14) 4 e f :=
 ru 0 4 14 4 14 (by omega) (by omega) (by omega) (by omega) (by omega) (λh=>absurd h (by omega)) (λh=>absurd h (by omega)) R p at_ w hR b g h1
theorem mr (d b f:Nat)(hd3:(d:Int)<=10)(hb:b<=44)(i:4<=b)(l:∀(R p:Nat) (at_:Int) (w:E),Rd w R p->p+f<=30000->0<=at_->at_+(b:Int)<=10000->Calls Pg 129 #[.pointer (T (Q R 0 Z)),J I at_,J I d] w λe g=>DI w R (p+f) b e g)
  (R p:Nat) (at_:Int) (w:E) (hR:Rd w R p) (m:p+(3*f+14)<=30000) (j:0<=at_) (h:at_+((3*b+2:Nat):Int)<=10000) :
  Calls Pg 129 #[.pointer (T (Q R 0 Z)),J I at_,J I ((d:Int)+1)] w λe g=>DI w R (p+(3*f+14)) (3*b+2) e g :=
 ru ((d:Int)+1) b f (3*b+2) (3*f+14) (by omega) (by omega) hb (by omega) (by omega) (λ_=>⟨nX _,nX _,i⟩) (λ_=>by rw[Int.add_sub_cancel];exact l) R p at_ w hR m j h
def VD (b f:Nat)(d:Int):Prop:=∀(R p:Nat) (at_:Int) (w:E),Rd w R p->p+b<=30000->0<=at_->at_+(f:Int)<=10000->Calls Pg 129 #[.pointer (T (Q R 0 Z)),J I at_,J I d] w λe g=>DI w R (p+b) f e g
theorem vd0:VD 14 4 ((0:Nat):Int):=λR p at_ w hR b f h1=>zv R p at_ w hR b f (by omega)
theorem vd1:VD 56 14 ((1:Nat):Int):=λR p at_ w hR hp b h1=>mr 0 4 14 (by omega) (by omega) (by omega) vd0 R p at_ w hR (by omega) b (by omega)
theorem vd2:VD 182 44 ((2:Nat):Int):=λR p at_ w hR hp b h1=>mr 1 14 56 (by omega) (by omega) (by omega) vd1 R p at_ w hR (by omega) b (by omega)
theorem vd3:VD 560 134 ((3:Nat):Int):=λR p at_ w hR hp b h1=>mr 2 44 182 (by omega) (by omega) (by omega) vd2 R p at_ w hR (by omega) b (by omega)
theorem DI.mono{w f:E}{R q q' n:Nat}{e:Ending}(h:DI w R q n e f)(o:q<=q')(hn:n<=b):DI w R q' b e f:=by obtain⟨L,g,c,h1,h2,r,m,j,p,i,l⟩:=h;exact⟨L,g,c,h1,h2,r,nL m hn,j,p,nL i o,l⟩
theorem vt (R p:Nat)(z:Int)(hz:z=0∨z=1)(w:E)(hR:Rd w R p)(hp:p<=29000):Calls Pg 129 #[.pointer (T (Q R 0 Z)),J I 0,J I (2+z)] w λe b=>DI w R (p+560) 134 e b:=by
 rcases hz with rfl|rfl;{exact(vd2 R p 0 w hR (by omega) (by omega) (by omega)).mono λe b h=>h.mono (by omega) (by omega)};{exact vd3 R p 0 w hR (by omega) (by omega) (by omega)}
def ST (w:E)(R b:Nat)(W:E)(q:Nat):Prop:=Rd W R q/\Only R w W/\PB W b (Y Z 0 0)/\R<A (B w)/\(A (B w))<=b
def SC (w:E)(R b:Nat)(W:E)(q g c:Nat)(L:List I3)(n:Nat):Prop:=ST w R b W q/\IR W (b+1) g c L/\L.length<=n/\∀i∈L,i.2.1.length<=5000
theorem ST.rd{w W:E}{R q:Nat}(h:ST w R b W q):Rd W R q:=h.1
theorem ST.lt{w W:E}{R q:Nat}(h:ST w R b W q):b<A (B W):=h.2.2.1.lt
theorem ST.low{w W W':E}{R q:Nat}(h:ST w R b W q)(hb:Below (b+1) W W'):ST w R b W' q:=by obtain⟨h1,h2,f,i,g⟩:=h;exact⟨h1.low hb (by omega),h2.then (hb.mono (by omega)),f.aa hb (by omega),i,g⟩
theorem ST.aa{w W W':E}{R q:Nat}(h:ST w R b W q)(hb:Below (A (B W)) W W'):ST w R b W' q:=h.low (hb.mono h.lt)
theorem PB.ac{w f:E}{R:Nat}{v:ZB}(h:PB w b v)(g:Only R w f)(hR:b≠R):PB f b v:=(g.block b h.lt hR).trans h
theorem ST.ac{w W W':E}{R q q':Nat}(h:ST w R b W q)(f:Only R W W')(hR:Rd W' R q'):ST w R b W' q':=by obtain⟨h1,h2,g,j,i⟩:=h;exact⟨hR,h2.trans f,g.ac f (by omega),j,i⟩
theorem ST.new{w:E}{R q:Nat}(h:Rd w R q):ST w R (A (B w)) (w.alloc (N #[Y Z 0 0] 43)) q:=by have b:=(BS w).alloc ly (N #[Y Z 0 0] 43);exact⟨h.aa b ly,Only.q b,gM w _,h.lt,nX _⟩
theorem SC.st{w W:E}{R q g c n:Nat}{L:List I3}(h:SC w R b W q g c L n):ST w R b W q:=h.1
theorem SC.ir{w W:E}{R q g c n:Nat}{L:List I3}(h:SC w R b W q g c L n):IR W (b+1) g c L:=h.2.1
theorem SC.len{w W:E}{R q g c n:Nat}{L:List I3}(h:SC w R b W q g c L n):L.length<=n:=h.2.2.1
theorem SC.up{w W:E}{R q g c n:Nat}{L:List I3}(h:SC w R b W q g c L n)(f:n<=m):SC w R b W q g c L m:=⟨h.1,h.2.1,nL h.2.2.1 f,h.2.2.2⟩
theorem SC.aa{w W W':E}{R q g c n:Nat}{L:List I3}(h:SC w R b W q g c L n)(hb:Below (A (B W)) W W'):SC w R b W' q g c L n :=
 ⟨h.1.aa hb,h.2.1.aa hb ly,h.2.2⟩
theorem SC.ac{w W W':E}{R q q' g c n:Nat}{L:List I3}(h:SC w R b W q g c L n)(f:Only R W W')(hR:Rd W' R q'):SC w R b W' q' g c L n :=
 ⟨h.1.ac f hR,h.2.1.ac f (by have:=h.1.2.2.2;omega),h.2.2⟩
theorem SC.di{w W W':E}{R q q' g c n:Nat}{L:List I3}(h:ST w R b W q)(l:IR W' (A (B W)) g c L)(hn:L.length<=n)(f:∀i∈L,i.2.1.length<=5000)(j:Only R W W')(hR:Rd W' R q'):SC w R b W' q' g c L n :=
 ⟨h.ac j hR,aF l h.lt,hn,f⟩
theorem SC.app{w W W':E}{R q g c g' c' n:Nat}{L M:List I3}(f:Array ZB)(h:SC w R b W q g c L n)(l:IR W' (b+1) g' c' (L++M))(o:(W.alloc (N f 146)).grownBy W' (T g))(hn:n+M.length<=n')(j:∀i∈M,i.2.1.length<=5000):SC w R b W' q g' c' (L++M) n':=by
 have p:=h.1.lt;have m:=bg ((cM (b+1) W).alloc p (N f 146)) o (by simp;omega) (λk e=>by have:=h.2.1.lt;simp at e;omega);refine⟨h.1.low m,l,by rw[eL];have:=h.len;omega,λi hi=>?_⟩;rcases wC.1 hi with hi|hi;{exact h.2.2.2 i hi};{exact j i hi}
theorem IR.new (W:E)(b:Nat)(hb:b<=A (B W))(L:List I3)(f:Array ZB)(g:f.toList=i3L L)(n:Nat)(hn:n=L.length)(hm:n<=100000):IR (W.alloc (N f 146)) b (A (B W)) n L:=by
 subst hn;have hz:f.size=L.length*3:=by rw[<-iV,<-g,NO]
 refine⟨iV L,.inr ⟨A (B W),L.length,f,rfl,hb,gM W _,nX _,by unfold maxLen;omega,hz,?_⟩⟩;rw[g,LQ (by rw[iV];omega)]
theorem SC.lit{w W:E}{R q:Nat}(h:ST w R f W q)(L:List I3)(b:Array ZB)(j:b.toList=i3L L)(n:Nat)(hn:n=L.length)(l:n<=100000)(g:∀i∈L,i.2.1.length<=5000):SC w R f (W.alloc (N b 146)) q (A (B W)) n L n :=
 ⟨h.aa (br.alloc ly _),IR.new W (f+1) h.lt L b j n hn l,by omega,g⟩
theorem SC.fin{w W:E}{R q g c n:Nat}{L:List I3}(h:SC w R b W q g c L n)(v:ZB):PB (W.setCell (Q b 0 Z) v) b v/\IR (W.setCell (Q b 0 Z) v) (A (B w)) g c L/\L.length<=n/\(∀i∈L,i.2.1.length<=5000)/\Rd (W.setCell (Q b 0 Z) v) R q/\Only R w (W.setCell (Q b 0 Z) v):=by obtain⟨⟨h1,h2,r,m,j⟩,f,l,o⟩:=h;have ZS:=(cM (A (B w)) W).setCell (p:=(Q b 0 Z)) j v;exact⟨r.set v,aF (Bp f (by omega) v) (by omega),l,o,h1.low ZS m,h2.then ZS⟩
def DP (w:E)(R q lo n:Nat)(e:Ending)(w':E):Prop:=∃(L:List I3) (g c:Nat),e=ZF (.agg #[Y (T (Q g 0 Z)) L.length c])/\IR w' (A (B w)) g c L/\lo<=L.length/\L.length<=n/\(∀i∈L,i.2.1.length<=5000)/\∃q':Nat,q'<=q/\Rd w' R q'/\Only R w w'
theorem jx{fn:Func}{p:Tmp}(h:fn.results=#[.cell p 43])(tmps:Array ZB)(w:E)(g:Nat)(v:ZB)(b:tmps.getD p undef=.pointer (T (Q g 0 Z)))(f:PB w g v):(results fn tmps).run Pg w=.ok (.agg #[v]) w :=
 results_cell_row h tmps w g 43 #[v] (0,0) _ b f underlying43 rfl vr
def cZ (L:List I3)(i:Nat):Ins:=⟨(L.getD i (0,[],0)).1,⟨(L.getD i (0,[],0)).2.1.toArray⟩,(L.getD i (0,[],0)).2.2⟩
theorem zx:∀(L:List I3) (i:Nat),i<L.length->(i3L L)[i*3]?=T (J I (cZ L i).op)/\(i3L L)[i*3+1]?=T (U (cZ L i).s)/\(i3L L)[i*3+2]?=T (J I (cZ L i).n)
 |[],i,h=>by simp at h
 |x::L,0,_=>⟨rfl,rfl,rfl⟩
 |x::L,i+1,h=>by
  have g:=zx L i (by simpa using h);have f:(i3V x).length=3:=rfl;have e:∀k,(i3L (x::L))[(i+1)*3+k]?=(i3L L)[i*3+k]?:=λk=>by show(i3V x++i3L L)[(i+1)*3+k]?=_;rw[KL (by rw[f];omega),f,show(i+1)*3+k - 3=i*3+k by omega]
  have b:=e 0;rw[LX,LX] at b;rw[b,e 1,e 2];exact g
theorem IR.at{w:E}{g c:Nat}{L:List I3}(h:IR w b g c L):∀i,i<L.length->AtIns w g 0 i (cZ L i):=by intro i hi;obtain⟨f,h1,h2⟩:=zx L i hi;have c0:=h.news _ _ f;have c1:=h.news _ _ h1;have c2:=h.news _ _ h2;rw[ik] at c0 c1 c2;exact⟨c0,c1,c2⟩
theorem EJ{L:List I3}(b:∀i∈L,i.2.1.length<=5000):∀i,i<L.length->(cZ L i).s.size<=maxLen:=by
 intro i hi;have h:=b L[i] (gz hi);have e:L.getD i (0,[],0)=L[i]:=by simp[hi]
 show(L.getD i (0,[],0)).2.1.toArray.size<=maxLen;rw[e,NM];unfold maxLen;omega
theorem vu (n:Nat)(w:E)(hn:(n:Int)<=300):Calls Pg 131 #[J I n] w λe s=>∃(L:List I3) (g:Nat),e=ZF (Y (T (Q g 0 Z)) 7 7)/\IR s (A (B w)) g 7 L/\L.length=7/\(∀i∈L,i.2.1.length<=5000)/\Below (A (B w)) w s:=by
 go_enter func131,ntmps131;go_wp2_with fail;refine(eW ⟨#[97,32]⟩ n _ (by show 2*n<=4000;omega) (by omega)).mono ?_;rintro e Wx ⟨t,rfl,p,l⟩;rw[l];have u:t.size<=5000:=nL p (by show 2*n<=5000;omega);clear p l;go_wp2_with fail;refine(bw t _).mono ?_;rintro e W1 ⟨rfl,b⟩;have h:=ae (b);clear b;go_wp2_with fail;refine(bm 7 _).mono ?_;rintro e W2 ⟨rfl,b⟩;have o:=ae (h.trans (b.mono h.size));clear b;go_wp2_with fail;refine(bQ 5 0 _).mono ?_;rintro e W3 ⟨rfl,b⟩;have q:=ae (o.trans (b.mono o.size));clear b;go_wp2_with fail;refine(bm 13 _).mono ?_;rintro e W4 ⟨rfl,b⟩;have r:=ae (q.trans (b.mono q.size));clear b;go_wp2_with fail;refine(bm 9 _).mono ?_;rintro e W5 ⟨rfl,b⟩;have j:=ae (r.trans (b.mono r.size));clear b;go_wp2_with fail;refine(bQ 4 2 _).mono ?_;rintro e W6 ⟨rfl,b⟩;have m:=ae (j.trans (b.mono j.size));clear b;go_wp2_with fail;refine(bQ 10 1 _).mono ?_;rintro e x ⟨rfl,b⟩;have f:=ae (m.trans (b.mono m.size));clear b;go_wp2;go_ret;refine⟨[(1,t.data.toList,0),(7,[],0),(5,[],0),(13,[],0),(9,[],0),(4,[],2),(10,[],1)],_,rfl,IR.new x _ f.size _ _ rfl _ rfl (by omega),rfl,?_,f.alloc f.size _⟩;intro i hi;simp only[A9,nj,NJ] at hi;rcases hi with rfl|rfl|rfl|rfl|rfl|rfl|rfl;{show t.data.toList.length<=5000;rw[NO];exact u};all_goals exact IH _
theorem iG (R p:Nat)(w:E)(hR:Rd w R p)(hp:p<=20000):Calls Pg 82 #[.pointer (T (Q R 0 Z))] w λe w'=>DP w R (p+600) 1 140 e w':=by
 have ZQ:=ae (ST.new hR);clear hR;go_enter func82,ntmps82;go_wp2_with fail;generalize World.alloc w _=W0 at ZQ ⊢;refine(ay R _ 2 _ ZQ.rd (by omega) (by omega) (by omega)).mono ?_;rintro e W1 ⟨d,rfl,S,d1,hR,h⟩;have M:=ae (ZQ.ac h hR);clear h hR ZQ;go_wp2_with fail;refine(vt R _ d (by omega) _ M.rd (by omega)).mono ?_;rintro e W2 ⟨L,g,c,rfl,l,bt,hn,ZS,ZL,hq2,hR,h⟩;have C:Hid (SC w R (A (B w)) W2 ZL g c L 134):=SC.di M l hn ZS h hR;clear h hR l ZS bt hn M;go_wp2_with fail;refine(ay R _ 24 _ C.st.rd (by omega) (by omega) (by omega)).mono ?_;rintro e f ⟨z,rfl,z0,z1,hR,h⟩;replace C:=ae (C.ac h hR);clear h hR;go_upto_if 13 with fail;go_cut [3] (λm j=>∃(L:List I3) (g c q:Nat),m=Y (T (Q g 0 Z)) L.length c/\q<=ZL+2/\Hid (SC w R (A (B w)) j q g c L 135));case first =>
  rcases(show z=0∨z=1∨z=2∨3<=z by omega) with rfl|rfl|rfl|h3
  ·iterate 1
    go_wp2_with fail;with_reducible first|refine(bm _ _).mono ?_|refine(bQ _ _ _).mono ?_|refine(bw _ _).mono ?_
    rintro e f ⟨rfl,b⟩;replace C:=ae (C.aa b);clear b
   have X:=ae (C.aa ((BS f).alloc ly (N #[J I 14,U ⟨#[]⟩,J I 0] 146)));have ln:=C.len;go_wp2_with (at_builtin;refine fY rfl (.tmp 14) (.tmp 16) rfl (A (B w)+1) g c L (by simp[Act.eval]) X.ir (Q (A (B f)) 0 Z) 1 1 [(14,[],0)] (by simp[Act.eval]) rfl (by simp) (ew f #[J I 14,U ⟨#[]⟩,J I 0] _) (by simp only[xT,KF];omega) (by have:=C.st.lt;simp;omega) ?_;intro D c1 ZN l r);go_meet;exact⟨_,D,c1,_,by simp,by omega,(C.app (n':=135) _ l r (by show 134+1<=135;omega) (λi hi=>by rw[hU.1 hi];exact IH _))⟩
  ·iterate 1
    go_wp2_with fail;with_reducible first|refine(bm _ _).mono ?_|refine(bQ _ _ _).mono ?_|refine(bw _ _).mono ?_
    rintro e f ⟨rfl,b⟩;replace C:=ae (C.aa b);clear b
   have X:=ae (C.aa ((BS f).alloc ly (N #[J I 10,U ⟨#[]⟩,J I 0] 146)));have ln:=C.len;go_wp2_with (at_builtin;refine fY rfl (.tmp 20) (.tmp 22) rfl (A (B w)+1) g c L (by simp[Act.eval]) X.ir (Q (A (B f)) 0 Z) 1 1 [(10,[],0)] (by simp[Act.eval]) rfl (by simp) (ew f #[J I 10,U ⟨#[]⟩,J I 0] _) (by simp only[xT,KF];omega) (by have:=C.st.lt;simp;omega) ?_;intro D c1 ZN l r);go_meet;exact⟨_,D,c1,_,by simp,by omega,(C.app (n':=135) _ l r (by show 134+1<=135;omega) (λi hi=>by rw[hU.1 hi];exact IH _))⟩
  ·go_wp2_with fail;refine(ay R _ 15 _ C.st.rd (by omega) (by omega) (by omega)).mono ?_;rintro e f ⟨y,rfl,ZK,y1,hR,h⟩;replace C:=ae (C.ac h hR);clear h hR;iterate 1
    go_wp2_with fail;with_reducible first|refine(bm _ _).mono ?_|refine(bQ _ _ _).mono ?_|refine(bw _ _).mono ?_
    rintro e f ⟨rfl,b⟩;replace C:=ae (C.aa b);clear b
   have X:=ae (C.aa ((BS f).alloc ly (N #[J I (1+y),U ⟨#[]⟩,J I 0] 146)));have ln:=C.len;go_wp2_with (at_builtin;refine fY rfl (.tmp 26) (.tmp 31) rfl (A (B w)+1) g c L (by simp[Act.eval]) X.ir (Q (A (B f)) 0 Z) 1 1 [((1+y),[],0)] (by simp[Act.eval]) rfl (by simp) (ew f #[J I (1+y),U ⟨#[]⟩,J I 0] _) (by simp only[xT,KF];omega) (by have:=C.st.lt;simp;omega) ?_;intro D c1 ZN l r);go_meet;exact⟨_,D,c1,_,by simp,by omega,(C.app (n':=135) _ l r (by show 134+1<=135;omega) (λi hi=>by rw[hU.1 hi];exact IH _))⟩
  ·have n0:(z == 0)=ZA:=by simp;omega
   have n1:(z == 1)=ZA:=by simp;omega
   have n2:(z == 2)=ZA:=by simp;omega
   go_wp2;go_meet;exact⟨L,g,c,_,rfl,by omega,C.up (by omega)⟩
 case rest =>
 clear C;obtain⟨K,g0,c0,q3,rfl,hq3,C⟩:=hcut;iterate 1
  go_wp2_with fail;with_reducible first|refine(bm _ _).mono ?_|refine(bQ _ _ _).mono ?_|refine(bw _ _).mono ?_
  rintro e f ⟨rfl,b⟩;replace C:=ae (C.aa b);clear b
 have X:=ae (C.aa ((BS f).alloc ly (N #[J I 15,U ⟨#[]⟩,J I 0] 146)));have ln:=C.len;go_upto_if 38 with (at_builtin;refine fY rfl (.tmp 33) (.tmp 35) rfl (A (B w)+1) g0 c0 K (by simp[Act.eval]) X.ir (Q (A (B f)) 0 Z) 1 1 [(15,[],0)] (by simp[Act.eval]) rfl (by simp) (ew f #[J I 15,U ⟨#[]⟩,J I 0] _) (by simp only[xT,KF];omega) (by have:=C.st.lt;simp;omega) ?_;intro g c ZN l r);replace C:=ae (C.app (n':=136) _ l r (by show 135+1<=136;omega) (λi hi=>by rw[hU.1 hi];exact IH _));clear l r X ln;generalize hL:K++[(15,[],0)]=L at C;have hn1:K.length+1=L.length:=by rw[<-hL,eL];rfl
 rw[hn1];clear hL hn1;go_cut [3] (λm j=>∃(L:List I3) (g c q:Nat),m=Y (T (Q g 0 Z)) L.length c/\q<=q3/\Hid (SC w R (A (B w)) j q g c L 140));case first =>
  by_cases hz:z=3
  ·subst hz;iterate 4
    go_wp2_with fail;with_reducible first|refine(bm _ _).mono ?_|refine(bQ _ _ _).mono ?_|refine(bw _ _).mono ?_
    rintro e f ⟨rfl,b⟩;replace C:=ae (C.aa b);clear b
   have u:=ae (SC.lit C.st [(1,[97,98,99,100,101,102,103,104],0),(7,[],0),(2,[],0),(10,[],1)] #[J I 1,U ⟨#[97,98,99,100,101,102,103,104]⟩,J I 0,J I 7,U ⟨#[]⟩,J I 0,J I 2,U ⟨#[]⟩,J I 0,J I 10,U ⟨#[]⟩,J I 1] rfl 4 rfl (by omega) (by decide));go_wp2;go_meet;exact⟨_,_,_,_,rfl,by omega,u.up (by omega)⟩
  {go_wp2;go_meet;exact⟨L,g,c,_,rfl,by omega,C.up (by omega)⟩}
 case rest =>
 clear C;obtain⟨L,g,c,q4,rfl,hq4,C⟩:=hcut;go_upto_if 45 with fail;go_cut [3] (λm j=>∃(L:List I3) (g c q:Nat),m=Y (T (Q g 0 Z)) L.length c/\q<=q4+1/\Hid (SC w R (A (B w)) j q g c L 140));case first =>
  by_cases hz:z=4
  ·subst hz;go_wp2_with fail;refine(dS R _ _ C.st.rd (by omega)).mono ?_;rintro e f ⟨t,rfl,G,hR,h⟩;replace C:=ae (C.ac h hR);clear h hR;iterate 4
    go_wp2_with fail;with_reducible first|refine(bm _ _).mono ?_|refine(bQ _ _ _).mono ?_|refine(bw _ _).mono ?_
    rintro e f ⟨rfl,b⟩;replace C:=ae (C.aa b);clear b
   have u:=ae (SC.lit C.st [(1,t.data.toList,0),(13,[],0),(9,[],0),(10,[],0)] #[J I 1,U t,J I 0,J I 13,U ⟨#[]⟩,J I 0,J I 9,U ⟨#[]⟩,J I 0,J I 10,U ⟨#[]⟩,J I 0] rfl 4 rfl (by omega) (ey (by omega) (by decide)));go_wp2;go_meet;exact⟨_,_,_,_,rfl,by omega,u.up (by omega)⟩
  {go_wp2;go_meet;exact⟨L,g,c,_,rfl,by omega,C.up (by omega)⟩}
 case rest =>
 clear C;obtain⟨L,g,c,q5,rfl,hq5,C⟩:=hcut;go_upto_region 14 with fail;go_cut [59] (λsb j=>∃(ZR:Bool) (q:Nat),sb=ZC ZR/\q<=q5+1/\Hid (SC w R (A (B w)) j q g c L 140));case first =>
  by_cases hz:z=7;{subst hz;go_wp2_with fail;refine(ay R _ 3 _ C.st.rd (by omega) (by omega) (by omega)).mono ?_;rintro e f ⟨x,rfl,x0,x1,hR,h⟩;replace C:=ae (C.ac h hR);clear h hR;go_wp2;go_meet;exact⟨_,_,rfl,by omega,C⟩};{go_wp2;go_meet;exact⟨_,_,rfl,by omega,C⟩}
 case rest =>
 clear C;obtain⟨ZR,V,rfl,hq5b,C⟩:=hcut;go_upto_if 59 with fail;go_cut [3] (λm j=>∃(L:List I3) (g c q:Nat),m=Y (T (Q g 0 Z)) L.length c/\q<=V+1/\Hid (SC w R (A (B w)) j q g c L 140));case first =>
  cases ZR with
  |false =>go_wp2;go_meet;exact⟨L,g,c,_,rfl,by omega,C⟩
  |true =>
   go_wp2_with fail;refine(ay R _ 2 _ C.st.rd (by omega) (by omega) (by omega)).mono ?_;rintro e f ⟨y,rfl,ZK,y1,hR,h⟩;replace C:=ae (C.ac h hR);clear h hR;go_wp2_with fail;obtain⟨m0,s⟩:∃m0:Nat,499+y=(m0:Int):=⟨(499+y).toNat,by omega⟩
   rw[s];refine(eW ⟨#[120]⟩ m0 _ (by show 1*m0<=4000;omega) (by omega)).mono ?_;rintro e Wm ⟨t,rfl,G,ZM⟩;rw[ZM];have ZI:t.size<=5000:=nL G (by show 1*m0<=5000;omega);clear G s ZM;iterate 6
    go_wp2_with fail;with_reducible first|refine(bm _ _).mono ?_|refine(bQ _ _ _).mono ?_|refine(bw _ _).mono ?_
    rintro e f ⟨rfl,b⟩;replace C:=ae (C.aa b);clear b
   have u:=ae (SC.lit C.st [(1,t.data.toList,0),(7,[],0),(11,[],5),(4,[],1),(10,[],1),(9,[],0)] #[J I 1,U t,J I 0,J I 7,U ⟨#[]⟩,J I 0,J I 11,U ⟨#[]⟩,J I 5,J I 4,U ⟨#[]⟩,J I 1,J I 10,U ⟨#[]⟩,J I 1,J I 9,U ⟨#[]⟩,J I 0] rfl 6 rfl (by omega) (ey ZI (by decide)));go_wp2;go_meet;exact⟨_,_,_,_,rfl,by omega,u.up (by omega)⟩
 case rest =>
 clear C;obtain⟨L,g,c,q6,rfl,hq6,C⟩:=hcut;go_upto_region 16 with fail;go_cut [77] (λsb j=>∃(ZR:Bool) (q:Nat),sb=ZC ZR/\q<=q6+1/\Hid (SC w R (A (B w)) j q g c L 140));case first =>
  by_cases hz:z=6;{subst hz;go_wp2_with fail;refine(ay R _ 3 _ C.st.rd (by omega) (by omega) (by omega)).mono ?_;rintro e f ⟨x,rfl,x0,x1,hR,h⟩;replace C:=ae (C.ac h hR);clear h hR;go_wp2;go_meet;exact⟨_,_,rfl,by omega,C⟩};{go_wp2;go_meet;exact⟨_,_,rfl,by omega,C⟩}
 case rest =>
 clear C;obtain⟨ZR,aq,rfl,hq6b,C⟩:=hcut;go_upto_if 77 with fail;go_cut [3] (λm j=>∃(L:List I3) (g c q:Nat),m=Y (T (Q g 0 Z)) L.length c/\q<=aq+1/\Hid (SC w R (A (B w)) j q g c L 140));case first =>
  cases ZR with
  |false =>go_wp2;go_meet;exact⟨L,g,c,_,rfl,by omega,C⟩
  |true =>
   go_wp2_with fail;refine(ay R _ 3 _ C.st.rd (by omega) (by omega) (by omega)).mono ?_;rintro e f ⟨y,rfl,ZK,y1,hR,h⟩;replace C:=ae (C.ac h hR);clear h hR;go_wp2_with fail;obtain⟨m0,s⟩:∃m0:Nat,200+y - 1=(m0:Int):=⟨(200+y - 1).toNat,by omega⟩
   rw[s];refine(vu m0 _ (by omega)).mono ?_;rintro e W8 ⟨LW,gW,rfl,l,lq,ZS,b⟩;have C8:=ae (SC.di C.st l (n:=140) (by omega) ZS (Only.q b) (C.st.rd.aa b ly));clear l ZS b s;go_wp2;go_meet;exact⟨LW,gW,7,_,by rw[lq],by omega,C8⟩
 case rest =>
 clear C;obtain⟨L,g,c,q7,rfl,hq7,C⟩:=hcut;go_upto_if 84 with fail;go_cut [3] (λm j=>∃(L:List I3) (g c q:Nat),m=Y (T (Q g 0 Z)) L.length c/\q<=q7/\Hid (SC w R (A (B w)) j q g c L 140));case first =>
  by_cases hz:z=5
  ·subst hz;iterate 2
    go_wp2_with fail;with_reducible first|refine(bm _ _).mono ?_|refine(bQ _ _ _).mono ?_|refine(bw _ _).mono ?_
    rintro e f ⟨rfl,b⟩;replace C:=ae (C.aa b);clear b
   have u:=ae (SC.lit C.st [(1,[115],0),(10,[],0)] #[J I 1,U ⟨#[115]⟩,J I 0,J I 10,U ⟨#[]⟩,J I 0] rfl 2 rfl (by omega) (by decide));go_wp2;go_meet;exact⟨_,_,_,_,rfl,by omega,u.up (by omega)⟩
  {go_wp2;go_meet;exact⟨L,g,c,_,rfl,by omega,C.up (by omega)⟩}
 case rest =>
 clear C;obtain⟨L,g,c,W,rfl,hq8,C⟩:=hcut;have ln:=C.len;have ge:=C.ir.lt;go_wp2_with fail;refine(fN g 0 L.length c (cZ L) _ (by omega) ge.2 (λi hi=>C.ir.at i (by omega)) (λi hi=>EJ C.2.2.2 i (by omega))).mono ?_;rintro e Wv ⟨rfl,b⟩;have O:=ae (C.aa b);clear b;cases hv:valid (cZ L) L.length with
 |true =>
  have vp:=(bF hv).2.1;clear hv;have o:=O.st.2.2.1;have zl:=o.lt;have S:=o.c0;have d1:=o.fz 0;have fin:=ae (O.fin (Y (T (Q g 0 Z)) L.length c));clear o;go_wp2;obtain⟨f1,ZO,f3,H,ZP,P⟩:=fin.out;try simp only[Exit.inBlock,Exit.then]
  refine bp (jx rfl _ _ (A (B w)) _ rfl f1) rfl ?_;exact⟨L,g,c,rfl,ZO,by omega,by omega,H,W,by omega,ZP,P⟩
 |false =>
  clear hv;replace C:=O;iterate 2
   go_wp2_with fail;with_reducible first|refine(bm _ _).mono ?_|refine(bQ _ _ _).mono ?_|refine(bw _ _).mono ?_
   rintro e f ⟨rfl,b⟩;replace C:=ae (C.aa b);clear b
  have ZJ:=ae (SC.lit C.st [(1,[120],0),(15,[],0)] #[J I 1,U ⟨#[120]⟩,J I 0,J I 15,U ⟨#[]⟩,J I 0] rfl 2 rfl (by omega) (by decide));have o:=ZJ.st.2.2.1;have zl:=o.lt;have S:=o.c0;have d1:=o.fz 0;have fin:=ae (ZJ.fin (Y (T (Q (A (B f)) 0 Z)) 2 2));clear o;go_wp2;obtain⟨f1,ZO,f3,H,ZP,P⟩:=fin.out;try simp only[Exit.inBlock,Exit.then]
  refine bp (jx rfl _ _ (A (B w)) _ rfl f1) rfl ?_;exact⟨[(1,[120],0),(15,[],0)],A (B f),2,rfl,ZO,by simp,by simp,H,W,by omega,ZP,P⟩
theorem tF:∀(L:List I3) (i:Nat) (y:I3) (j:Nat) (v:ZB),j<3->i<L.length->i3V y=(i3V (L.getD i (0,[],0))).set j v->i3L (L.set i y)=(i3L L).set (i*3+j) v
 |[],i,y,j,v,_,h,_=>by simp at h
 |x::L,0,y,j,v,hj,_,e=>by show i3V y++i3L L=(i3V x++i3L L).set (0*3+j) v;rw[TT _ _ (by show 0*3+j<3;omega),QO,IT];rw[show i3V y=(i3V x).set j v from e]
 |x::L,i+1,y,j,v,hj,h,e=>by have f:=tF L i y j v hj (by simpa using h) e;have b:(i3V x).length=3:=rfl;show i3V x++i3L (L.set i y)=(i3V x++i3L L).set ((i+1)*3+j) v;rw[f,PU _ _ (by rw[b];omega),b,show(i+1)*3+j - 3=i*3+j by omega]
theorem IR.set3{w:E}{g c:Nat}{L:List I3}(h:IR w b g c L)(hi:i<L.length)(p:j<3)(y:I3)(v:ZB)(e:i3V y=(i3V (L.getD i (0,[],0))).set j v):IR (w.setCell (Q g (i*3+j) Z) v) b g c (L.set i y):=by
 unfold IR;rw[KQ,tF L i y j v p hi e];refine⟨by rw[KQ];exact h.1,?_⟩;rcases h.2 with ⟨f,h0⟩|⟨g',cap,l,f,hb,m,h1,h2,o,n⟩
 {simp at f};{simp only[KK,KJ,OT] at f;obtain⟨⟨rfl,-⟩,-,rfl⟩:=f;refine .inr ⟨g,c,l.setIfInBounds (i*3+j) v,rfl,hb,?_,h1,h2,by simpa using o,?_⟩;{simp[World.setCell,LE,m]};{rw[NS,U3,n]}}
theorem IR.take{w:E}{g c:Nat}{L:List I3}(h:IR w b g c L)(k:Nat)(i:k<=L.length):IR w b g c (L.take k):=by
 have e:i3L (L.take k)=(i3L L).take (k*3):=by
  have h1:i3L L=i3L (L.take k)++i3L (L.drop k):=by rw[<-qy,NU]
  have h2:(i3L (L.take k)).length=k*3:=by rw[iV,LY,MZ i]
  rw[h1,<-h2,List.take_left'];rfl
 have n:(L.take k).length=k:=by rw[LY,MZ i]
 unfold IR;rw[e,n];refine⟨by rw[LY,h.1,MZ (by omega)],?_⟩;rcases h.2 with ⟨f,h0⟩|⟨g',cap,j,f,hb,l,h1,h2,o,m⟩
 {simp at f};{simp only[KK,KJ,OT] at f;obtain⟨⟨rfl,-⟩,-,rfl⟩:=f;refine .inr ⟨g,c,j,rfl,hb,l,by omega,h2,o,?_⟩;rw[<-m,List.take_take,MZ (by omega)]}
theorem IR.fz{w:E}{g c:Nat}{L:List I3}(h:IR w f g c L)(j:Nat):w.frozen? (Q g j Z)=ZA:=by
 rcases h.2 with ⟨b,_⟩|⟨g',cap,cur,b,_,i,_⟩
 {simp at b};{simp only[KK,KJ,OT] at b;obtain⟨⟨rfl,-⟩,-,rfl⟩:=b;exact UI i _}
theorem SC.set3{w W:E}{R q g c n:Nat}{L:List I3}(h:SC w R b W q g c L n)(hi:i<L.length)(m:j<3)(y:I3)(v:ZB)(e:i3V y=(i3V (L.getD i (0,[],0))).set j v)(l:y.2.1.length<=5000):SC w R b (W.setCell (Q g (i*3+j) Z) v) q g c (L.set i y) n:=by
 have ZS:=(cM (b+1) W).setCell (p:=(Q g (i*3+j) Z)) h.ir.lt.1 v;refine⟨h.1.low ZS,h.ir.set3 hi m y v e,by rw[KQ];exact h.len,λx f=>?_⟩;rcases LN f with h1|h1;{exact h.2.2.2 x h1};{rw[h1];exact l}
theorem SC.take{w W:E}{R q g c n:Nat}{L:List I3}(h:SC w R b W q g c L n)(k:Nat)(f:k<=L.length):SC w R b W q g c (L.take k) n :=
 ⟨h.1,h.ir.take k f,by rw[LY];have:=h.len;omega,λi hi=>h.2.2.2 i (OH hi)⟩
theorem SC.app0{w W W':E}{R q g c g' c' n:Nat}{L M:List I3}(h:SC w R b W q g c L n)(j:IR W' (b+1) g' c' (L++M))(m:W.grownBy W' (T g))(hn:L.length+M.length<=n')(f:∀i∈M,i.2.1.length<=5000):SC w R b W' q g' c' (L++M) n':=by
 have hl:=h.1.lt;have l:=bg (cM (b+1) W) m (by omega) (λk e=>by have:=h.2.1.lt;simp at e;omega);refine⟨h.1.low l,j,by rw[eL];omega,λi hi=>?_⟩;rcases wC.1 hi with hi|hi;{exact h.2.2.2 i hi};{exact f i hi}
theorem SC.mono{w W:E}{R q g c n:Nat}{L:List I3}(h:SC w R b W q g c L n)(hn:L.length<=f):SC w R b W q g c L f:=⟨h.1,h.2.1,hn,h.2.2.2⟩
theorem SC.H{w W:E}{R q g c n:Nat}{L:List I3}(h:SC w R b W q g c L n)(i:Nat)(hi:i<L.length):(L.getD i (0,[],0)).2.1.length<=5000:=by
 have e:L.getD i (0,[],0)=L[i]:=by simp[hi]
 rw[e];exact h.2.2.2 _ (gz hi)
theorem ry{w:E}{R q:Nat}(h:Rd w R q)(v:ZB):SC w R (A (B w)+1) (((w.alloc (N #[v] 43)).alloc (N #[Y Z 0 0] 43)).alloc (N #[] 146)) q (A (B w)+2) 0 [] 0:=by
 have f:=(BS w).alloc ly (N #[v] 43);have b:=f.alloc f.size (N #[Y Z 0 0] 43);have g:=b.alloc b.size (N #[] 146);have hz:((w.alloc (N #[v] 43)).alloc (N #[Y Z 0 0] 43)).heap.size=A (B w)+2:=by simp
 have ZP:=IR.lit ((w.alloc (N #[v] 43)).alloc (N #[Y Z 0 0] 43));rw[hz] at ZP;refine⟨⟨h.aa g ly,Only.q g,?_,h.lt,by omega⟩,ZP,nX _,λi hi=>by cases hi⟩;show _=_;rw[UJ _ _ (by simp)];exact PK w _ _
