import Derived.Test.YtoddkejemcbkmaaGreatDoorRF
import Derived.Deep.DeepCutAuto
set_option maxRecDepth 100000
set_option maxHeartbeats 8000000
set_option linter.unusedSimpArgs false
open Go renaming Addr.mk->Q,Value.slice->Z,Value.string->U,Value.int->J,Value.bool->ZD,Obj.cells->N,IntKind.i64->I,World->M,Value->ZC,Ending.returned->ZF,Proofs.Tryz.prog->Pg
open Option renaming none->Y,some->T
open Bool renaming false->ZA
namespace Go.Proofs.YtoddkejemcbkmaaGreatDoor.Vp
open Tryz RowKit
variable {b f m n' i j:Nat}
theorem eI{t:ByteArray}{n:Int}(b:t.size<=5000){ZQ:List I3}(hM:∀i∈ZQ,i.2.1.length<=5000):∀i∈(1,t.data.toList,n)::ZQ,i.2.1.length<=5000:=by
 intro i hi;rcases A9.1 hi with rfl|hi;{show t.data.toList.length<=5000;rw[NY];exact b};{exact hM i hi}
structure VS (w:M)(R:Nat)(W:M)(q g c:Nat)(L:List I3)(n:Nat):Prop where
 rd:Rd W R q
 o:Only R w W
 ir:IR W w.heap.size g c L
 tx:∀i∈L,i.2.1.length<=5000
 lo:R<w.heap.size
 le:L.length<=n
section
variable {w W W':M}{R q q' g c g' c' n:Nat}{L ZQ:List I3}
theorem VS.F (h:VS w R W q g c L n)(b:Only R W W')(hR:Rd W' R q'):VS w R W' q' g c L n:=⟨hR,h.o.trans b,h.ir.F b h.lo,h.tx,h.lo,h.le⟩
theorem VS.aa (h:VS w R W q g c L n)(b:Below W.heap.size W W'):VS w R W' q g c L n:=h.F (Only.u b) (h.rd.aa b ly)
theorem VS.low (h:VS w R W q g c L n)(b:Below w.heap.size W W')(f:IR W' w.heap.size g' c' ZQ)(hM:∀i∈ZQ,i.2.1.length<=5000):VS w R W' q g' c' ZQ ZQ.length:=⟨h.rd.low b h.lo,h.o.then b,f,hM,h.lo,n8 _⟩
theorem VS.join (h:VS w R W q g c L n)(f:IR W' w.heap.size g' c' (L++ZQ))(b:W.grownBy W' (T g))(hM:∀i∈ZQ,i.2.1.length<=5000):VS w R W' q g' c' (L++ZQ) (L++ZQ).length :=
 h.low (bg (eL w.heap.size W) b h.o.size (λk e=>by have:=h.ir.lt;simp at e;omega)) f λi hi=>by
  rcases p8.1 hi with hi|hi
  ·exact h.tx i hi
  ·exact hM i hi
theorem VS.add (cs:Array ZC)(h:VS w R W q g c L n)(f:IR W' w.heap.size g' c' (L++ZQ))(b:(W.alloc (N cs 90)).grownBy W' (T g))(hM:∀i∈ZQ,i.2.1.length<=5000):VS w R W' q g' c' (L++ZQ) (L++ZQ).length :=
 (h.aa (br.alloc ly _)).join f b hM
theorem VS.fin{ZM ZN:Nat}(h:VS w R W q g c L n)(i:m=L.length)(b:L≠[])(hn:L.length<=ZN)(f:q<=ZM):DI w R ZM ZN (ZF (Z (T (Q g 0 Y)) m c)) W :=
 ⟨L,g,c,by rw[i],h.ir,b,hn,h.tx,q,f,h.rd,h.o⟩
end
section
variable {ops:Array Oper}{rest:List Oper}{o:Oper}{a:Act}{ZM:Exit->Act->M->Prop}{w W W':M}{R q g c n:Nat}{L ZQ:List I3}
theorem pA (z:o.guard=Y)(s x:Operand)(G:o.op=.call { callee:=.builtin .append,args:=#[s,x],argTypes:=#[57,57] })(C:VS w R W q g c L n)(F:Below W.heap.size W W')(p:Addr)(m d:Nat)(E:a.eval s=Z (T (Q g 0 Y)) L.length c)(A:a.eval x=Z (T p) m d)(r:m=ZQ.length)(y:ZQ≠[])(f:∀j u,(i3L ZQ)[j]?=T u->W'.cell? (p.add j)=T u)(hM:∀i∈ZQ,i.2.1.length<=5000)(hlen:L.length+m<=100000)
  (h:∀g' c' b l,Hid (VS w R l q g' c' b b.length)->b.length<=L.length+m->L.length+m<=b.length->wpList Pg ops ZM rest (a.put o.dst (Z (T (Q g' 0 Y)) b.length c')) l):wpList Pg ops ZM (o::rest) a W':=by
 have t:=C.aa F;refine gF z s x G w.heap.size g c L E t.ir p m d ZQ A r y f (by omega) t.o.size ?_;intro g' c' l D B;exact h g' c' (L++ZQ) l (t.join D B hM) (by rw[cM,r];exact n8 _) (by rw[cM,r];exact n8 _)
theorem gX (p:o.guard=Y)(s x:Operand)(z:o.op=.call { callee:=.builtin .append,args:=#[s,x],argTypes:=#[57,57] })(C:VS w R W q g c L n)(ZQ:List I3)(m:Nat){f:Array ZC}(y:a.eval s=Z (T (Q g 0 Y)) L.length c)(u:a.eval x=Z (T (Q W.heap.size 0 Y)) m m)(r:f.toList=i3L ZQ)(A:m=ZQ.length)(l:ZQ≠[])(hM:∀i∈ZQ,i.2.1.length<=5000)(j:L.length+m<=100000)
  (h:∀g' c' b t,Hid (VS w R t q g' c' b b.length)->b.length<=L.length+m->L.length+m<=b.length->wpList Pg ops ZM rest (a.put o.dst (Z (T (Q g' 0 Y)) b.length c')) t):wpList Pg ops ZM (o::rest) a (W.alloc (N f 90)) :=
 pA p s x z C (br.alloc ly _) _ m m y u A l (r ▸ dx W f _) hM j h
end
theorem rH (u:Int)(H nc B ZK:Nat)(hd3:u<=11)(hd0:0<=u)(hb:H<=44)(hB4:4<=B)(hC14:14<=ZK)(fd:0<u->3*H+2<=B/\3*nc+14<=ZK/\4<=H)(ZJ:0<u->∀(R p:Nat) (at_:Int) (w:M),Rd w R p->p+nc<=30000->0<=at_->at_+(H:Int)<=10000->Calls Pg 121 #[.pointer (T (Q R 0 Y)),J I at_,J I (u - 1)] w λe w'=>DI w R (p+nc) H e w')
  (R p:Nat) (at_:Int) (w:M) (hR:Rd w R p) (hp:p+ZK<=30000) (ha0:0<=at_) (ha1:at_+(B:Int)<=10000) :
  Calls Pg 121 #[.pointer (T (Q R 0 Y)),J I at_,J I u] w λe w'=>DI w R (p+ZK) B e w':=by
 have W:=ae ZJ;have A0:=(q9 w).alloc ly (N #[] 90);have C:Hid (VS w R (w.alloc (N #[] 90)) p w.heap.size 0 [] 0):=⟨hR.aa A0 ly,Only.u A0,IR.lit w,λi hi=>(by cases hi),hR.lt,n8 _⟩
 clear A0 hR ZJ;go_enter func121,ntmps121;go_wp2_with fail;generalize World.alloc w _=W0 at C ⊢;refine(au R _ 12 _ C.rd (by omega) (by omega) (by omega)).mono ?_;rintro e l ⟨z,rfl,z0,z1,hR,b⟩;replace C:=ae (C.F b hR);clear b hR;go_upto_region 3 with fail;go_cut [19] (λsb wx=>∃ZN:Bool,sb=ZD ZN/\(ZN=true->6<z)/\(ZN=ZA->6<z->0<u)/\Hid (VS w R wx (p+1) w.heap.size 0 [] 0));case first =>
  by_cases h2:u<=0;{by_cases h3:6<z;{go_wp2;go_meet;exact⟨true,rfl,λ_=>h3,(λh=>by cases h),C.out⟩};{go_wp2;go_meet;exact⟨ZA,rfl,(λh=>by cases h),λ_ h=>absurd h (by omega),C⟩}};{go_wp2;go_meet;exact⟨ZA,rfl,(λh=>by cases h),λ_ _=>by omega,C.out⟩}
 case rest =>
 clear C;obtain⟨ZN,rfl,aq,bt,C⟩:=hcut;go_upto_if 19 with fail;go_cut [7,8] (λso sk wx=>∃(g c q:Nat) (L:List I3) (k:Int),so=Z (T (Q g 0 Y)) L.length c/\sk=J I k/\0<=k/\k<12/\(6<k->0<u)/\q<=p+1/\Hid (VS w R wx q g c L 0));case first =>
  cases ZN with
  |true =>
   have h2:=aq rfl;have G:IntKind.i64.wrap (z - 6)=z - 6:=by rw[wA];omega
   go_wp2;go_meet;exact⟨_,_,_,[],_,rfl,rfl,by omega,by omega,λh=>by omega,n8 _,C⟩
  |false =>have X:=ae (bt rfl);go_wp2;go_meet;exact⟨_,_,_,[],_,rfl,rfl,by omega,by omega,X,n8 _,C⟩
 case rest =>
 clear C;obtain⟨g,c,q,L,k,rfl,rfl,hk0,hk1,dg,hq,C⟩:=hcut;have hL0:=C.le;rcases(show(k=0∨k=1)∨(k=2∨k=3∨k=4∨k=6)∨k=5∨(k=7∨k=8∨k=9∨k=10)∨k=11 by omega) with P|P|rfl|P|rfl
 ·rcases P with rfl|rfl;all_goals
   go_wp2_with fail;refine(gT R _ _ C.rd (by omega)).mono ?_;rintro e l ⟨t,rfl,ht,q2,ZI,hR,b⟩;replace C:=ae (C.F b hR);clear b hR;go_wp2_with fail;with_reducible first|refine(aV _ _).mono ?_|refine(bv _ _ _).mono ?_|refine(bj _ _).mono ?_
   rintro e l ⟨rfl,j⟩;replace C:=ae (C.aa j);clear j;go_wp2_with (at_builtin;refine gX rfl _ _ rfl C [(1,t.data.toList,0)] 1 (by simp[Act.eval]) (by simp[Act.eval]) rfl rfl (by simp) (eI (by omega) (by decide)) (by omega) ?_);intro ZL c1 s V C S u1;go_wp2;go_ret;exact C.fin rfl (IB.1 (by omega)) (by omega) (by omega)
 ·rcases P with rfl|rfl|rfl|rfl;all_goals
   go_wp2_with fail;refine(ef R _ _ C.rd (by omega)).mono ?_;rintro e l ⟨t,rfl,ht,hR,b⟩;replace C:=ae (C.F b hR);clear b hR
   iterate 2
    go_wp2_with fail;with_reducible first|refine(aV _ _).mono ?_|refine(bv _ _ _).mono ?_|refine(bj _ _).mono ?_
    rintro e l ⟨rfl,j⟩;replace C:=ae (C.aa j);clear j
   go_wp2_with (at_builtin;first|(refine gX rfl _ _ rfl C [(1,t.data.toList,0),(12,[],0)] 2 (by simp[Act.eval]) (by simp[Act.eval]) rfl rfl (by simp) (eI (by omega) (by decide)) (by omega) ?_)|(refine gX rfl _ _ rfl C [(1,t.data.toList,0),(13,[],0)] 2 (by simp[Act.eval]) (by simp[Act.eval]) rfl rfl (by simp) (eI (by omega) (by decide)) (by omega) ?_));intro ZL c1 s V C S u1;go_wp2;go_ret;exact C.fin rfl (IB.1 (by omega)) (by omega) (by omega)
 ·skip;go_wp2_with fail;refine(ef R _ _ C.rd (by omega)).mono ?_;rintro e l ⟨t,rfl,ht,hR,b⟩;replace C:=ae (C.F b hR);clear b hR;iterate 2
   go_wp2_with fail;with_reducible first|refine(aV _ _).mono ?_|refine(bv _ _ _).mono ?_|refine(bj _ _).mono ?_
   rintro e l ⟨rfl,j⟩;replace C:=ae (C.aa j);clear j
  go_wp2_with fail;refine(au R _ 3 _ C.rd (by omega) (by omega) (by omega)).mono ?_;rintro e l ⟨y,rfl,y0,y1,hR,b⟩;replace C:=ae (C.F b hR);clear b hR;iterate 2
   go_wp2_with fail;with_reducible first|refine(aV _ _).mono ?_|refine(bv _ _ _).mono ?_|refine(bj _ _).mono ?_
   rintro e l ⟨rfl,j⟩;replace C:=ae (C.aa j);clear j
  go_wp2_with (at_builtin;refine gX rfl _ _ rfl C [(1,t.data.toList,0),(12,[],0),(5,[],y),(12,[],0)] 4 (by simp[Act.eval]) (by simp[Act.eval]) rfl rfl (by simp) (eI (by omega) (by intro i hi;simp only[A9,nj,PS] at hi;rcases hi with rfl|rfl|rfl<;>exact E4 _)) (by omega) ?_);intro ZL c1 s V C S u1;go_wp2;go_ret;exact C.fin rfl (IB.1 (by omega)) (by omega) (by omega)
 ·have A:=dg (by omega);obtain⟨aq,bt,X⟩:=fd A;rcases P with rfl|rfl|rfl|rfl;all_goals
   go_wp2_with fail;refine(W A R _ at_ _ C.rd (by omega) (by omega) (by omega)).mono ?_;rintro e l ⟨ZQ,E,F,rfl,hM,f,ZM,n,q1,hq1,hR,b⟩;replace C:=ae (C.F b hR);have ZO:=ae hM.news;have o:=ae n;have m:=ae f;have K:=IB.2 f;clear b hR hM n f;go_wp2_with (at_builtin;refine pA rfl _ _ rfl C br (Q E 0 Y) ZQ.length F (by simp[Act.eval]) (by simp[Act.eval]) rfl m ZO o (by omega) ?_);intro ZL c1 s V C S u1;clear ZO o m
  ·skip;go_wp2_with fail;refine(W A R _ (at_+(s.length:Int)) _ C.rd (by omega) (by omega) (by omega)).mono ?_;rintro e l ⟨ZQ,E,F,rfl,hM,f,ZM,n,q2,ZI,hR,b⟩;replace C:=ae (C.F b hR);have ZO:=ae hM.news;have o:=ae n;have m:=ae f;have K:=IB.2 f;clear b hR hM n f;go_wp2_with (at_builtin;refine pA rfl _ _ rfl C br (Q E 0 Y) ZQ.length F (by simp[Act.eval]) (by simp[Act.eval]) rfl m ZO o (by omega) ?_);intro g2 c2 L2 W2 C l2 u2;clear ZO o m;go_wp2_with fail;refine(au R _ 2 _ C.rd (by omega) (by omega) (by omega)).mono ?_;rintro e l ⟨y,rfl,y0,y1,hR,b⟩;replace C:=ae (C.F b hR);clear b hR;go_wp2_with fail;with_reducible first|refine(aV _ _).mono ?_|refine(bv _ _ _).mono ?_|refine(bj _ _).mono ?_
   rintro e l ⟨rfl,j⟩;replace C:=ae (C.aa j);clear j;go_wp2_with (at_builtin;refine gX rfl _ _ rfl C [((2+4*y),[],0)] 1 (by simp[Act.eval]) (by simp[Act.eval]) rfl rfl (by simp) (λi hi=>by rw[nL.1 hi];exact E4 _) (by omega) ?_);intro g3 c3 ZP W3 C l3 u3;go_wp2;go_ret;exact C.fin rfl (IB.1 (by omega)) (by omega) (by omega)
  ·skip;go_wp2_with fail;refine(au R _ 3 _ C.rd (by omega) (by omega) (by omega)).mono ?_;rintro e l ⟨x,rfl,x0,x1,hR,b⟩;replace C:=ae (C.F b hR);clear b hR;go_wp2_with fail;refine(au R _ 4 _ C.rd (by omega) (by omega) (by omega)).mono ?_;rintro e l ⟨y,rfl,y0,y1,hR,b⟩;replace C:=ae (C.F b hR);clear b hR;go_wp2_with fail;with_reducible first|refine(aV _ _).mono ?_|refine(bv _ _ _).mono ?_|refine(bj _ _).mono ?_
   rintro e l ⟨rfl,j⟩;replace C:=ae (C.aa j);clear j;go_wp2_with (at_builtin;refine gX rfl _ _ rfl C [((3+x),[],y)] 1 (by simp[Act.eval]) (by simp[Act.eval]) rfl rfl (by simp) (λi hi=>by rw[nL.1 hi];exact E4 _) (by omega) ?_);intro g2 c2 L2 W2 C l2 u2;go_wp2;go_ret;exact C.fin rfl (IB.1 (by omega)) (by omega) (by omega)
  all_goals
   go_wp2_with fail;with_reducible first|refine(aV _ _).mono ?_|refine(bv _ _ _).mono ?_|refine(bj _ _).mono ?_
   rintro e l ⟨rfl,j⟩;replace C:=ae (C.aa j);clear j;go_wp2_with (at_builtin;refine gX rfl _ _ rfl C [(11,[],0)] 1 (by simp[Act.eval]) (by simp[Act.eval]) rfl rfl (by simp) (λi hi=>by rw[nL.1 hi];exact E4 _) (by omega) ?_);intro g2 c2 L2 W2 C l2 u2;go_wp2_with fail;refine(W A R _ (at_+(L2.length:Int)) _ C.rd (by omega) (by omega) (by omega)).mono ?_;rintro e l ⟨ZQ,E,F,rfl,hM,f,ZM,n,q3,hq3,hR,b⟩;replace C:=ae (C.F b hR);have ZO:=ae hM.news;have o:=ae n;have m:=ae f;have K:=IB.2 f;clear b hR hM n f;go_wp2_with (at_builtin;refine pA rfl _ _ rfl C br (Q E 0 Y) ZQ.length F (by simp[Act.eval]) (by simp[Act.eval]) rfl m ZO o (by omega) ?_);intro g3 c3 ZP W3 C l3 u3;clear ZO o m;go_wp2_with fail;with_reducible first|refine(aV _ _).mono ?_|refine(bv _ _ _).mono ?_|refine(bj _ _).mono ?_
   rintro e l ⟨rfl,j⟩;replace C:=ae (C.aa j);clear j;go_wp2_with (at_builtin;refine gX rfl _ _ rfl C [(10,[],0)] 1 (by simp[Act.eval]) (by simp[Act.eval]) rfl rfl (by simp) (λi hi=>by rw[nL.1 hi];exact E4 _) (by omega) ?_);intro g4 c4 L4 W4 C l4 u4;obtain⟨⟨n0,cn⟩,fz⟩:=C.ir.cellN (i:=s.length) (by omega);have il:(s.length:Int)<(L4.length:Int):=by omega
   have gl:=C.ir.lt.2;go_wp2_with fail;refine(nS _ _).mono ?_;rintro e l ⟨rfl,G⟩;rw[G];clear G;generalize (if 200<at_+(L4.length:Int) then 200 else at_+(L4.length:Int))=sv;obtain⟨L5,r,D,O⟩:=C.ir.setN (i:=s.length) (by omega) sv;replace C:=ae (C.low ((eL w.heap.size W4).setCell (p:=(Q g4 (s.length*3+2) Y)) C.ir.lt.1 (J I sv)) O (D C.tx));go_upto_region 33 with fail;generalize World.setCell W4 _ _=W5 at C ⊢;rw[<-r];have b5:=Nat.le_of_eq r;have d5:=Nat.le_of_eq r.symm;clear r D O cn fz gl il;go_wp2_with fail;refine(W A R _ (at_+(L5.length:Int)) _ C.rd (by omega) (by omega) (by omega)).mono ?_;rintro e l ⟨ZQ,E,F,rfl,hM,f,ZM,n,q6,hq6,hR,b⟩;replace C:=ae (C.F b hR);have ZO:=ae hM.news;have o:=ae n;have m:=ae f;have K:=IB.2 f;clear b hR hM n f;go_wp2_with (at_builtin;refine pA rfl _ _ rfl C br (Q E 0 Y) ZQ.length F (by simp[Act.eval]) (by simp[Act.eval]) rfl m ZO o (by omega) ?_);intro g6 c6 L6 W6 C l6 u6;clear ZO o m;obtain⟨⟨n0,cn⟩,fz⟩:=C.ir.cellN (i:=ZP.length) (by omega);have il:(ZP.length:Int)<(L6.length:Int):=by omega
   have gl:=C.ir.lt.2;go_wp2_with fail;refine(nS _ _).mono ?_;rintro e l ⟨rfl,G⟩;rw[G];clear G;generalize (if 200<at_+(L6.length:Int) then 200 else at_+(L6.length:Int))=sv;obtain⟨L7,r,D,O⟩:=C.ir.setN (i:=ZP.length) (by omega) sv;replace C:=ae (C.low ((eL w.heap.size W6).setCell (p:=(Q g6 (ZP.length*3+2) Y)) C.ir.lt.1 (J I sv)) O (D C.tx));go_upto_region 35 with fail;generalize World.setCell W6 _ _=W7 at C ⊢;rw[<-r];have b7:=Nat.le_of_eq r;have d7:=Nat.le_of_eq r.symm;clear r D O cn fz gl il;go_wp2;go_ret;exact C.fin rfl (IB.1 (by omega)) (by omega) (by omega)
 ·skip;go_wp2_with fail;refine(gT R _ _ C.rd (by omega)).mono ?_;rintro e l ⟨t,rfl,ht,q2,ZI,hR,b⟩;replace C:=ae (C.F b hR);clear b hR;iterate 4
   go_wp2_with fail;with_reducible first|refine(aV _ _).mono ?_|refine(bv _ _ _).mono ?_|refine(bj _ _).mono ?_
   rintro e l ⟨rfl,j⟩;replace C:=ae (C.aa j);clear j
  go_wp2_with (at_builtin;refine gX rfl _ _ rfl C [(1,t.data.toList,0),(7,[],0),(8,[],0),(9,[],0)] 4 (by simp[Act.eval]) (by simp[Act.eval]) rfl rfl (by simp) (eI (by omega) (by decide)) (by omega) ?_);intro ZL c1 s V C S u1;go_wp2;go_ret;exact C.fin rfl (IB.1 (by omega)) (by omega) (by omega)
theorem Ap (R p:Nat)(at_:Int)(w:M)(hR:Rd w R p)(b:p+14<=30000)(c:0<=at_)(h1:at_+4<=10000):Calls Pg 121 #[.pointer (T (Q R 0 Y)),J I at_,J I 0] w λe f=>DI w R (p+14) 4 e f :=
 rH 0 4 14 4 14 (by omega) (by omega) (by omega) (by omega) (by omega) (λh=>absurd h (by omega)) (λh=>absurd h (by omega)) R p at_ w hR b c h1
theorem mN (d b c:Nat)(hd3:(d:Int)<=10)(hb:b<=44)(h:4<=b)(j:∀(R p:Nat) (at_:Int) (w:M),Rd w R p->p+c<=30000->0<=at_->at_+(b:Int)<=10000->Calls Pg 121 #[.pointer (T (Q R 0 Y)),J I at_,J I d] w λe f=>DI w R (p+c) b e f)
  (R p:Nat) (at_:Int) (w:M) (hR:Rd w R p) (l:p+(3*c+14)<=30000) (g:0<=at_) (i:at_+((3*b+2:Nat):Int)<=10000) :
  Calls Pg 121 #[.pointer (T (Q R 0 Y)),J I at_,J I ((d:Int)+1)] w λe f=>DI w R (p+(3*c+14)) (3*b+2) e f :=
 rH ((d:Int)+1) b c (3*b+2) (3*c+14) (by omega) (by omega) hb (by omega) (by omega) (λ_=>⟨n8 _,n8 _,h⟩) (λ_=>by rw[Int.add_sub_cancel];exact j) R p at_ w hR l g i
def VD (c b:Nat)(d:Int):Prop:=∀(R p:Nat) (at_:Int) (w:M),Rd w R p->p+c<=30000->0<=at_->at_+(b:Int)<=10000->Calls Pg 121 #[.pointer (T (Q R 0 Y)),J I at_,J I d] w λe f=>DI w R (p+c) b e f
theorem vd0:VD 14 4 ((0:Nat):Int):=λR p at_ w hR b c h1=>Ap R p at_ w hR b c (by omega)
theorem vd1:VD 56 14 ((1:Nat):Int):=λR p at_ w hR hp b h1=>mN 0 4 14 (by omega) (by omega) (by omega) vd0 R p at_ w hR (by omega) b (by omega)
theorem vd2:VD 182 44 ((2:Nat):Int):=λR p at_ w hR hp b h1=>mN 1 14 56 (by omega) (by omega) (by omega) vd1 R p at_ w hR (by omega) b (by omega)
theorem vd3:VD 560 134 ((3:Nat):Int):=λR p at_ w hR hp b h1=>mN 2 44 182 (by omega) (by omega) (by omega) vd2 R p at_ w hR (by omega) b (by omega)
theorem DI.mono{w f:M}{R q q' n:Nat}{e:Ending}(h:DI w R q n e f)(l:q<=q')(hn:n<=b):DI w R q' b e f:=by obtain⟨L,g,c,h1,h2,h3,h4,m,p,j,i⟩:=h;exact⟨L,g,c,h1,h2,h3,p9 h4 hn,m,p,p9 j l,i⟩
theorem vL (R p:Nat)(z:Int)(hz:z=0∨z=1)(w:M)(hR:Rd w R p)(hp:p<=29000):Calls Pg 121 #[.pointer (T (Q R 0 Y)),J I 0,J I (2+z)] w λe b=>DI w R (p+560) 134 e b:=by
 rcases hz with rfl|rfl;{exact(vd2 R p 0 w hR (by omega) (by omega) (by omega)).mono λe b h=>h.mono (by omega) (by omega)};{exact vd3 R p 0 w hR (by omega) (by omega) (by omega)}
def ST (w:M)(R b:Nat)(W:M)(q:Nat):Prop:=Rd W R q/\Only R w W/\PB W b (Z Y 0 0)/\R<w.heap.size/\w.heap.size<=b
def SC (w:M)(R b:Nat)(W:M)(q g c:Nat)(L:List I3)(n:Nat):Prop:=ST w R b W q/\IR W (b+1) g c L/\L.length<=n/\∀i∈L,i.2.1.length<=5000
theorem ST.rd{w W:M}{R q:Nat}(h:ST w R b W q):Rd W R q:=h.1
theorem ST.lt{w W:M}{R q:Nat}(h:ST w R b W q):b<W.heap.size:=h.2.2.1.lt
theorem ST.low{w W W':M}{R q:Nat}(h:ST w R b W q)(hb:Below (b+1) W W'):ST w R b W' q:=by obtain⟨h1,h2,h3,h4,c⟩:=h;exact⟨h1.low hb (by omega),h2.then (hb.mono (by omega)),h3.aa hb (by omega),h4,c⟩
theorem ST.aa{w W W':M}{R q:Nat}(h:ST w R b W q)(hb:Below W.heap.size W W'):ST w R b W' q:=h.low (hb.mono h.lt)
theorem PB.F{w c:M}{R:Nat}{v:ZC}(h:PB w b v)(f:Only R w c)(hR:b≠R):PB c b v:=(f.block b h.lt hR).trans h
theorem ST.F{w W W':M}{R c q q':Nat}(h:ST w R c W q)(b:Only R W W')(hR:Rd W' R q'):ST w R c W' q':=by obtain⟨h1,h2,h3,h4,f⟩:=h;exact⟨hR,h2.trans b,h3.F b (by omega),h4,f⟩
theorem ST.new{w:M}{R q:Nat}(h:Rd w R q):ST w R w.heap.size (w.alloc (N #[Z Y 0 0] 59)) q:=by have b:=(q9 w).alloc ly (N #[Z Y 0 0] 59);exact⟨h.aa b ly,Only.u b,n6 w _,h.lt,n8 _⟩
theorem SC.st{w W:M}{R q g c n:Nat}{L:List I3}(h:SC w R b W q g c L n):ST w R b W q:=h.1
theorem SC.ir{w W:M}{R q g c n:Nat}{L:List I3}(h:SC w R b W q g c L n):IR W (b+1) g c L:=h.2.1
theorem SC.len{w W:M}{R q g c n:Nat}{L:List I3}(h:SC w R b W q g c L n):L.length<=n:=h.2.2.1
theorem SC.up{w W:M}{R q g c n:Nat}{L:List I3}(h:SC w R b W q g c L n)(f:n<=m):SC w R b W q g c L m:=⟨h.1,h.2.1,p9 h.2.2.1 f,h.2.2.2⟩
theorem SC.aa{w W W':M}{R q g c n:Nat}{L:List I3}(h:SC w R b W q g c L n)(hb:Below W.heap.size W W'):SC w R b W' q g c L n :=
 ⟨h.1.aa hb,h.2.1.aa hb ly,h.2.2⟩
theorem SC.F{w W W':M}{R q q' g c n:Nat}{L:List I3}(h:SC w R f W q g c L n)(b:Only R W W')(hR:Rd W' R q'):SC w R f W' q' g c L n :=
 ⟨h.1.F b hR,h.2.1.F b (by have:=h.1.2.2.2;omega),h.2.2⟩
theorem SC.di{w W W':M}{R q q' g c n:Nat}{L:List I3}(h:ST w R b W q)(f:IR W' W.heap.size g c L)(hn:L.length<=n)(l:∀i∈L,i.2.1.length<=5000)(j:Only R W W')(hR:Rd W' R q'):SC w R b W' q' g c L n :=
 ⟨h.F j hR,aC f h.lt,hn,l⟩
theorem SC.app{w W W':M}{R q g c g' c' n:Nat}{L ZQ:List I3}(f:Array ZC)(h:SC w R b W q g c L n)(m:IR W' (b+1) g' c' (L++ZQ))(l:(W.alloc (N f 90)).grownBy W' (T g))(hn:n+ZQ.length<=n')(p:∀i∈ZQ,i.2.1.length<=5000):SC w R b W' q g' c' (L++ZQ) n':=by
 have j:=h.1.lt;have o:=bg ((eL (b+1) W).alloc j (N f 90)) l (by simp;omega) (λk e=>by have:=h.2.1.lt;simp at e;omega);refine⟨h.1.low o,m,by rw[cM];have:=h.len;omega,λi hi=>?_⟩;rcases p8.1 hi with hi|hi;{exact h.2.2.2 i hi};{exact p i hi}
theorem IR.new (W:M)(b:Nat)(hb:b<=W.heap.size)(L:List I3)(c:Array ZC)(f:c.toList=i3L L)(n:Nat)(hn:n=L.length)(hm:n<=100000):IR (W.alloc (N c 90)) b W.heap.size n L:=by
 subst hn;have hz:c.size=L.length*3:=by rw[<-jw,<-f,NY]
 refine⟨jw L,.inr ⟨W.heap.size,L.length,c,rfl,hb,n6 W _,n8 _,by unfold maxLen;omega,hz,?_⟩⟩;rw[f,KK (by rw[jw];omega)]
theorem SC.lit{w W:M}{R q:Nat}(h:ST w R b W q)(L:List I3)(c:Array ZC)(j:c.toList=i3L L)(n:Nat)(hn:n=L.length)(f:n<=100000)(g:∀i∈L,i.2.1.length<=5000):SC w R b (W.alloc (N c 90)) q W.heap.size n L n :=
 ⟨h.aa (br.alloc ly _),IR.new W (b+1) h.lt L c j n hn f,by omega,g⟩
theorem SC.fin{w W:M}{R q g c n:Nat}{L:List I3}(h:SC w R b W q g c L n)(v:ZC):PB (W.setCell (Q b 0 Y) v) b v/\IR (W.setCell (Q b 0 Y) v) w.heap.size g c L/\L.length<=n/\(∀i∈L,i.2.1.length<=5000)/\Rd (W.setCell (Q b 0 Y) v) R q/\Only R w (W.setCell (Q b 0 Y) v):=by obtain⟨⟨h1,h2,h3,h4,f⟩,l,j,m⟩:=h;have B:=(eL w.heap.size W).setCell (p:=(Q b 0 Y)) f v;exact⟨h3.set v,aC (CY l (by omega) v) (by omega),j,m,h1.low B h4,h2.then B⟩
def DP (w:M)(R q lo n:Nat)(e:Ending)(w':M):Prop:=∃(L:List I3) (g c:Nat),e=ZF (.agg #[Z (T (Q g 0 Y)) L.length c])/\IR w' w.heap.size g c L/\lo<=L.length/\L.length<=n/\(∀i∈L,i.2.1.length<=5000)/\∃q':Nat,q'<=q/\Rd w' R q'/\Only R w w'
theorem j7{fn:Func}{p:Tmp}(h:fn.results=#[.cell p 59])(tmps:Array ZC)(w:M)(g:Nat)(v:ZC)(c:tmps.getD p undef=.pointer (T (Q g 0 Y)))(b:PB w g v):(results fn tmps).run Pg w=.ok (.agg #[v]) w :=
 results_cell_row h tmps w g 59 #[v] (0,0) _ c b underlying59 rfl vI
def dh (L:List I3)(i:Nat):Ins:=⟨(L.getD i (0,[],0)).1,⟨(L.getD i (0,[],0)).2.1.toArray⟩,(L.getD i (0,[],0)).2.2⟩
theorem Aq:∀(L:List I3) (i:Nat),i<L.length->(i3L L)[i*3]?=T (J I (dh L i).op)/\(i3L L)[i*3+1]?=T (U (dh L i).s)/\(i3L L)[i*3+2]?=T (J I (dh L i).n)
 |[],i,h=>by simp at h
 |x::L,0,_=>⟨rfl,rfl,rfl⟩
 |x::L,i+1,h=>by
  have f:=Aq L i (by simpa using h);have b:(i3V x).length=3:=rfl;have e:∀k,(i3L (x::L))[(i+1)*3+k]?=(i3L L)[i*3+k]?:=λk=>by show(i3V x++i3L L)[(i+1)*3+k]?=_;rw[I5 (by rw[b];omega),b,show(i+1)*3+k - 3=i*3+k by omega]
  have c:=e 0;rw[NS,NS] at c;rw[c,e 1,e 2];exact f
theorem IR.at{w:M}{g c:Nat}{L:List I3}(h:IR w b g c L):∀i,i<L.length->AtIns w g 0 i (dh L i):=by intro i hi;obtain⟨f,h1,h2⟩:=Aq L i hi;have c0:=h.news _ _ f;have c1:=h.news _ _ h1;have c2:=h.news _ _ h2;rw[iU] at c0 c1 c2;exact⟨c0,c1,c2⟩
theorem F9{L:List I3}(b:∀i∈L,i.2.1.length<=5000):∀i,i<L.length->(dh L i).s.size<=maxLen:=by
 intro i hi;have h:=b L[i] (gz hi);have e:L.getD i (0,[],0)=L[i]:=by simp[hi]
 show(L.getD i (0,[],0)).2.1.toArray.size<=maxLen;rw[e,CX];unfold maxLen;omega
theorem vM (n:Nat)(w:M)(hn:(n:Int)<=300):Calls Pg 122 #[J I n] w λe r=>∃(L:List I3) (g:Nat),e=ZF (Z (T (Q g 0 Y)) 7 7)/\IR r w.heap.size g 7 L/\L.length=7/\(∀i∈L,i.2.1.length<=5000)/\Below w.heap.size w r:=by
 go_enter func122,ntmps122;go_wp2_with fail;refine(fj ⟨#[97,32]⟩ n _ (by show 2*n<=4000;omega) (by omega)).mono ?_;rintro e Wx ⟨t,rfl,l,o⟩;rw[o];have s:t.size<=5000:=p9 l (by show 2*n<=5000;omega);clear l o;go_wp2_with fail;refine(bj t _).mono ?_;rintro e W1 ⟨rfl,b⟩;have j:=ae (b);clear b;go_wp2_with fail;refine(aV 7 _).mono ?_;rintro e W2 ⟨rfl,b⟩;have p:=ae (j.trans (b.mono j.size));clear b;go_wp2_with fail;refine(bv 5 0 _).mono ?_;rintro e W3 ⟨rfl,b⟩;have f:=ae (p.trans (b.mono p.size));clear b;go_wp2_with fail;refine(aV 13 _).mono ?_;rintro e W4 ⟨rfl,b⟩;have q:=ae (f.trans (b.mono f.size));clear b;go_wp2_with fail;refine(aV 9 _).mono ?_;rintro e W5 ⟨rfl,b⟩;have m:=ae (q.trans (b.mono q.size));clear b;go_wp2_with fail;refine(bv 4 2 _).mono ?_;rintro e W6 ⟨rfl,b⟩;have h:=ae (m.trans (b.mono m.size));clear b;go_wp2_with fail;refine(bv 10 1 _).mono ?_;rintro e u ⟨rfl,b⟩;have c:=ae (h.trans (b.mono h.size));clear b;go_wp2;go_ret;refine⟨[(1,t.data.toList,0),(7,[],0),(5,[],0),(13,[],0),(9,[],0),(4,[],2),(10,[],1)],_,rfl,IR.new u _ c.size _ _ rfl _ rfl (by omega),rfl,?_,c.alloc c.size _⟩;intro i hi;simp only[A9,nj,PS] at hi;rcases hi with rfl|rfl|rfl|rfl|rfl|rfl|rfl;{show t.data.toList.length<=5000;rw[NY];exact s};all_goals exact E4 _
theorem jk (R p:Nat)(w:M)(hR:Rd w R p)(hp:p<=20000):Calls Pg 83 #[.pointer (T (Q R 0 Y))] w λe w'=>DP w R (p+600) 1 140 e w':=by
 have E:=ae (ST.new hR);clear hR;go_enter func83,ntmps83;go_wp2_with fail;generalize World.alloc w _=W0 at E ⊢;refine(au R _ 2 _ E.rd (by omega) (by omega) (by omega)).mono ?_;rintro e W1 ⟨d,rfl,W,ZJ,hR,h⟩;have ZQ:=ae (E.F h hR);clear h hR E;go_wp2_with fail;refine(vL R _ d (by omega) _ ZQ.rd (by omega)).mono ?_;rintro e W2 ⟨L,g,c,rfl,l,ZL,hn,D,ZM,hq2,hR,h⟩;have C:Hid (SC w R w.heap.size W2 ZM g c L 134):=SC.di ZQ l hn D h hR;clear h hR l D ZL hn ZQ;go_wp2_with fail;refine(au R _ 24 _ C.st.rd (by omega) (by omega) (by omega)).mono ?_;rintro e b ⟨z,rfl,z0,z1,hR,h⟩;replace C:=ae (C.F h hR);clear h hR;go_upto_if 13 with fail;go_cut [3] (λm j=>∃(L:List I3) (g c q:Nat),m=Z (T (Q g 0 Y)) L.length c/\q<=ZM+2/\Hid (SC w R w.heap.size j q g c L 135));case first =>
  rcases(show z=0∨z=1∨z=2∨3<=z by omega) with rfl|rfl|rfl|h3
  ·iterate 1
    go_wp2_with fail;with_reducible first|refine(aV _ _).mono ?_|refine(bv _ _ _).mono ?_|refine(bj _ _).mono ?_
    rintro e b ⟨rfl,f⟩;replace C:=ae (C.aa f);clear f
   have X:=ae (C.aa ((q9 b).alloc ly (N #[J I 14,U ⟨#[]⟩,J I 0] 90)));have ln:=C.len;go_wp2_with (at_builtin;refine gF rfl (.tmp 14) (.tmp 16) rfl (w.heap.size+1) g c L (by simp[Act.eval]) X.ir (Q b.heap.size 0 Y) 1 1 [(14,[],0)] (by simp[Act.eval]) rfl (by simp) (dx b #[J I 14,U ⟨#[]⟩,J I 0] _) (by simp only[eT,nX];omega) (by have:=C.st.lt;simp;omega) ?_;intro B c1 H l r);go_meet;exact⟨_,B,c1,_,by simp,by omega,(C.app (n':=135) _ l r (by show 134+1<=135;omega) (λi hi=>by rw[nL.1 hi];exact E4 _))⟩
  ·iterate 1
    go_wp2_with fail;with_reducible first|refine(aV _ _).mono ?_|refine(bv _ _ _).mono ?_|refine(bj _ _).mono ?_
    rintro e b ⟨rfl,f⟩;replace C:=ae (C.aa f);clear f
   have X:=ae (C.aa ((q9 b).alloc ly (N #[J I 10,U ⟨#[]⟩,J I 0] 90)));have ln:=C.len;go_wp2_with (at_builtin;refine gF rfl (.tmp 20) (.tmp 22) rfl (w.heap.size+1) g c L (by simp[Act.eval]) X.ir (Q b.heap.size 0 Y) 1 1 [(10,[],0)] (by simp[Act.eval]) rfl (by simp) (dx b #[J I 10,U ⟨#[]⟩,J I 0] _) (by simp only[eT,nX];omega) (by have:=C.st.lt;simp;omega) ?_;intro B c1 H l r);go_meet;exact⟨_,B,c1,_,by simp,by omega,(C.app (n':=135) _ l r (by show 134+1<=135;omega) (λi hi=>by rw[nL.1 hi];exact E4 _))⟩
  ·go_wp2_with fail;refine(au R _ 15 _ C.st.rd (by omega) (by omega) (by omega)).mono ?_;rintro e b ⟨y,rfl,y0,ZI,hR,h⟩;replace C:=ae (C.F h hR);clear h hR;iterate 1
    go_wp2_with fail;with_reducible first|refine(aV _ _).mono ?_|refine(bv _ _ _).mono ?_|refine(bj _ _).mono ?_
    rintro e b ⟨rfl,f⟩;replace C:=ae (C.aa f);clear f
   have X:=ae (C.aa ((q9 b).alloc ly (N #[J I (1+y),U ⟨#[]⟩,J I 0] 90)));have ln:=C.len;go_wp2_with (at_builtin;refine gF rfl (.tmp 26) (.tmp 31) rfl (w.heap.size+1) g c L (by simp[Act.eval]) X.ir (Q b.heap.size 0 Y) 1 1 [((1+y),[],0)] (by simp[Act.eval]) rfl (by simp) (dx b #[J I (1+y),U ⟨#[]⟩,J I 0] _) (by simp only[eT,nX];omega) (by have:=C.st.lt;simp;omega) ?_;intro B c1 H l r);go_meet;exact⟨_,B,c1,_,by simp,by omega,(C.app (n':=135) _ l r (by show 134+1<=135;omega) (λi hi=>by rw[nL.1 hi];exact E4 _))⟩
  ·have n0:(z == 0)=ZA:=by simp;omega
   have n1:(z == 1)=ZA:=by simp;omega
   have n2:(z == 2)=ZA:=by simp;omega
   go_wp2;go_meet;exact⟨L,g,c,_,rfl,by omega,C.up (by omega)⟩
 case rest =>
 clear C;obtain⟨ZO,g0,c0,q3,rfl,hq3,C⟩:=hcut;iterate 1
  go_wp2_with fail;with_reducible first|refine(aV _ _).mono ?_|refine(bv _ _ _).mono ?_|refine(bj _ _).mono ?_
  rintro e b ⟨rfl,f⟩;replace C:=ae (C.aa f);clear f
 have X:=ae (C.aa ((q9 b).alloc ly (N #[J I 15,U ⟨#[]⟩,J I 0] 90)));have ln:=C.len;go_upto_if 38 with (at_builtin;refine gF rfl (.tmp 33) (.tmp 35) rfl (w.heap.size+1) g0 c0 ZO (by simp[Act.eval]) X.ir (Q b.heap.size 0 Y) 1 1 [(15,[],0)] (by simp[Act.eval]) rfl (by simp) (dx b #[J I 15,U ⟨#[]⟩,J I 0] _) (by simp only[eT,nX];omega) (by have:=C.st.lt;simp;omega) ?_;intro g c H l r);replace C:=ae (C.app (n':=136) _ l r (by show 135+1<=136;omega) (λi hi=>by rw[nL.1 hi];exact E4 _));clear l r X ln;generalize hL:ZO++[(15,[],0)]=L at C;have hn1:ZO.length+1=L.length:=by rw[<-hL,cM];rfl
 rw[hn1];clear hL hn1;go_cut [3] (λm j=>∃(L:List I3) (g c q:Nat),m=Z (T (Q g 0 Y)) L.length c/\q<=q3/\Hid (SC w R w.heap.size j q g c L 140));case first =>
  by_cases hz:z=3
  ·subst hz;iterate 4
    go_wp2_with fail;with_reducible first|refine(aV _ _).mono ?_|refine(bv _ _ _).mono ?_|refine(bj _ _).mono ?_
    rintro e b ⟨rfl,f⟩;replace C:=ae (C.aa f);clear f
   have u:=ae (SC.lit C.st [(1,[97,98,99,100,101,102,103,104],0),(7,[],0),(2,[],0),(10,[],1)] #[J I 1,U ⟨#[97,98,99,100,101,102,103,104]⟩,J I 0,J I 7,U ⟨#[]⟩,J I 0,J I 2,U ⟨#[]⟩,J I 0,J I 10,U ⟨#[]⟩,J I 1] rfl 4 rfl (by omega) (by decide));go_wp2;go_meet;exact⟨_,_,_,_,rfl,by omega,u.up (by omega)⟩
  {go_wp2;go_meet;exact⟨L,g,c,_,rfl,by omega,C.up (by omega)⟩}
 case rest =>
 clear C;obtain⟨L,g,c,q4,rfl,hq4,C⟩:=hcut;go_upto_if 45 with fail;go_cut [3] (λm j=>∃(L:List I3) (g c q:Nat),m=Z (T (Q g 0 Y)) L.length c/\q<=q4+1/\Hid (SC w R w.heap.size j q g c L 140));case first =>
  by_cases hz:z=4
  ·subst hz;go_wp2_with fail;refine(ef R _ _ C.st.rd (by omega)).mono ?_;rintro e b ⟨t,rfl,K,hR,h⟩;replace C:=ae (C.F h hR);clear h hR;iterate 4
    go_wp2_with fail;with_reducible first|refine(aV _ _).mono ?_|refine(bv _ _ _).mono ?_|refine(bj _ _).mono ?_
    rintro e b ⟨rfl,f⟩;replace C:=ae (C.aa f);clear f
   have u:=ae (SC.lit C.st [(1,t.data.toList,0),(13,[],0),(9,[],0),(10,[],0)] #[J I 1,U t,J I 0,J I 13,U ⟨#[]⟩,J I 0,J I 9,U ⟨#[]⟩,J I 0,J I 10,U ⟨#[]⟩,J I 0] rfl 4 rfl (by omega) (eI (by omega) (by decide)));go_wp2;go_meet;exact⟨_,_,_,_,rfl,by omega,u.up (by omega)⟩
  {go_wp2;go_meet;exact⟨L,g,c,_,rfl,by omega,C.up (by omega)⟩}
 case rest =>
 clear C;obtain⟨L,g,c,q5,rfl,hq5,C⟩:=hcut;go_upto_region 14 with fail;go_cut [59] (λsb j=>∃(A:Bool) (q:Nat),sb=ZD A/\q<=q5+1/\Hid (SC w R w.heap.size j q g c L 140));case first =>
  by_cases hz:z=7;{subst hz;go_wp2_with fail;refine(au R _ 3 _ C.st.rd (by omega) (by omega) (by omega)).mono ?_;rintro e b ⟨x,rfl,x0,x1,hR,h⟩;replace C:=ae (C.F h hR);clear h hR;go_wp2;go_meet;exact⟨_,_,rfl,by omega,C⟩};{go_wp2;go_meet;exact⟨_,_,rfl,by omega,C⟩}
 case rest =>
 clear C;obtain⟨A,aq,rfl,hq5b,C⟩:=hcut;go_upto_if 59 with fail;go_cut [3] (λm j=>∃(L:List I3) (g c q:Nat),m=Z (T (Q g 0 Y)) L.length c/\q<=aq+1/\Hid (SC w R w.heap.size j q g c L 140));case first =>
  cases A with
  |false =>go_wp2;go_meet;exact⟨L,g,c,_,rfl,by omega,C⟩
  |true =>
   go_wp2_with fail;refine(au R _ 2 _ C.st.rd (by omega) (by omega) (by omega)).mono ?_;rintro e b ⟨y,rfl,y0,ZI,hR,h⟩;replace C:=ae (C.F h hR);clear h hR;go_wp2_with fail;obtain⟨m0,s⟩:∃m0:Nat,499+y=(m0:Int):=⟨(499+y).toNat,by omega⟩
   rw[s];refine(fj ⟨#[120]⟩ m0 _ (by show 1*m0<=4000;omega) (by omega)).mono ?_;rintro e Wm ⟨t,rfl,K,S⟩;rw[S];have ZK:t.size<=5000:=p9 K (by show 1*m0<=5000;omega);clear K s S;iterate 6
    go_wp2_with fail;with_reducible first|refine(aV _ _).mono ?_|refine(bv _ _ _).mono ?_|refine(bj _ _).mono ?_
    rintro e b ⟨rfl,f⟩;replace C:=ae (C.aa f);clear f
   have u:=ae (SC.lit C.st [(1,t.data.toList,0),(7,[],0),(11,[],5),(4,[],1),(10,[],1),(9,[],0)] #[J I 1,U t,J I 0,J I 7,U ⟨#[]⟩,J I 0,J I 11,U ⟨#[]⟩,J I 5,J I 4,U ⟨#[]⟩,J I 1,J I 10,U ⟨#[]⟩,J I 1,J I 9,U ⟨#[]⟩,J I 0] rfl 6 rfl (by omega) (eI ZK (by decide)));go_wp2;go_meet;exact⟨_,_,_,_,rfl,by omega,u.up (by omega)⟩
 case rest =>
 clear C;obtain⟨L,g,c,q6,rfl,hq6,C⟩:=hcut;go_upto_region 16 with fail;go_cut [77] (λsb j=>∃(A:Bool) (q:Nat),sb=ZD A/\q<=q6+1/\Hid (SC w R w.heap.size j q g c L 140));case first =>
  by_cases hz:z=6;{subst hz;go_wp2_with fail;refine(au R _ 3 _ C.st.rd (by omega) (by omega) (by omega)).mono ?_;rintro e b ⟨x,rfl,x0,x1,hR,h⟩;replace C:=ae (C.F h hR);clear h hR;go_wp2;go_meet;exact⟨_,_,rfl,by omega,C⟩};{go_wp2;go_meet;exact⟨_,_,rfl,by omega,C⟩}
 case rest =>
 clear C;obtain⟨A,P,rfl,hq6b,C⟩:=hcut;go_upto_if 77 with fail;go_cut [3] (λm j=>∃(L:List I3) (g c q:Nat),m=Z (T (Q g 0 Y)) L.length c/\q<=P+1/\Hid (SC w R w.heap.size j q g c L 140));case first =>
  cases A with
  |false =>go_wp2;go_meet;exact⟨L,g,c,_,rfl,by omega,C⟩
  |true =>
   go_wp2_with fail;refine(au R _ 3 _ C.st.rd (by omega) (by omega) (by omega)).mono ?_;rintro e b ⟨y,rfl,y0,ZI,hR,h⟩;replace C:=ae (C.F h hR);clear h hR;go_wp2_with fail;obtain⟨m0,s⟩:∃m0:Nat,200+y - 1=(m0:Int):=⟨(200+y - 1).toNat,by omega⟩
   rw[s];refine(vM m0 _ (by omega)).mono ?_;rintro e W8 ⟨LW,gW,rfl,l,lq,D,f⟩;have C8:=ae (SC.di C.st l (n:=140) (by omega) D (Only.u f) (C.st.rd.aa f ly));clear l D f s;go_wp2;go_meet;exact⟨LW,gW,7,_,by rw[lq],by omega,C8⟩
 case rest =>
 clear C;obtain⟨L,g,c,q7,rfl,hq7,C⟩:=hcut;go_upto_if 84 with fail;go_cut [3] (λm j=>∃(L:List I3) (g c q:Nat),m=Z (T (Q g 0 Y)) L.length c/\q<=q7/\Hid (SC w R w.heap.size j q g c L 140));case first =>
  by_cases hz:z=5
  ·subst hz;iterate 2
    go_wp2_with fail;with_reducible first|refine(aV _ _).mono ?_|refine(bv _ _ _).mono ?_|refine(bj _ _).mono ?_
    rintro e b ⟨rfl,f⟩;replace C:=ae (C.aa f);clear f
   have u:=ae (SC.lit C.st [(1,[115],0),(10,[],0)] #[J I 1,U ⟨#[115]⟩,J I 0,J I 10,U ⟨#[]⟩,J I 0] rfl 2 rfl (by omega) (by decide));go_wp2;go_meet;exact⟨_,_,_,_,rfl,by omega,u.up (by omega)⟩
  {go_wp2;go_meet;exact⟨L,g,c,_,rfl,by omega,C.up (by omega)⟩}
 case rest =>
 clear C;obtain⟨L,g,c,V,rfl,hq8,C⟩:=hcut;have ln:=C.len;have ge:=C.ir.lt;go_wp2_with fail;refine(fV g 0 L.length c (dh L) _ (by omega) ge.2 (λi hi=>C.ir.at i (by omega)) (λi hi=>F9 C.2.2.2 i (by omega))).mono ?_;rintro e Wv ⟨rfl,f⟩;have ZP:=ae (C.aa f);clear f;cases hv:valid (dh L) L.length with
 |true =>
  have vp:=(bO hv).2.1;clear hv;have o:=ZP.st.2.2.1;have zl:=o.lt;have W:=o.c0;have ZJ:=o.fz 0;have fin:=ae (ZP.fin (Z (T (Q g 0 Y)) L.length c));clear o;go_wp2;obtain⟨f1,F,f3,G,ZN,O⟩:=fin.out;try simp only[Exit.inBlock,Exit.then]
  refine bp (j7 rfl _ _ w.heap.size _ rfl f1) rfl ?_;exact⟨L,g,c,rfl,F,by omega,by omega,G,V,by omega,ZN,O⟩
 |false =>
  clear hv;replace C:=ZP;iterate 2
   go_wp2_with fail;with_reducible first|refine(aV _ _).mono ?_|refine(bv _ _ _).mono ?_|refine(bj _ _).mono ?_
   rintro e b ⟨rfl,f⟩;replace C:=ae (C.aa f);clear f
  have CC:=ae (SC.lit C.st [(1,[120],0),(15,[],0)] #[J I 1,U ⟨#[120]⟩,J I 0,J I 15,U ⟨#[]⟩,J I 0] rfl 2 rfl (by omega) (by decide));have o:=CC.st.2.2.1;have zl:=o.lt;have W:=o.c0;have ZJ:=o.fz 0;have fin:=ae (CC.fin (Z (T (Q b.heap.size 0 Y)) 2 2));clear o;go_wp2;obtain⟨f1,F,f3,G,ZN,O⟩:=fin.out;try simp only[Exit.inBlock,Exit.then]
  refine bp (j7 rfl _ _ w.heap.size _ rfl f1) rfl ?_;exact⟨[(1,[120],0),(15,[],0)],b.heap.size,2,rfl,F,by simp,by simp,G,V,by omega,ZN,O⟩
theorem tN:∀(L:List I3) (i:Nat) (y:I3) (j:Nat) (v:ZC),j<3->i<L.length->i3V y=(i3V (L.getD i (0,[],0))).set j v->i3L (L.set i y)=(i3L L).set (i*3+j) v
 |[],i,y,j,v,_,h,_=>by simp at h
 |x::L,0,y,j,v,hj,_,e=>by show i3V y++i3L L=(i3V x++i3L L).set (0*3+j) v;rw[UF _ _ (by show 0*3+j<3;omega),US,F6];rw[show i3V y=(i3V x).set j v from e]
 |x::L,i+1,y,j,v,hj,h,e=>by have c:=tN L i y j v hj (by simpa using h) e;have b:(i3V x).length=3:=rfl;show i3V x++i3L (L.set i y)=(i3V x++i3L L).set ((i+1)*3+j) v;rw[c,P9 _ _ (by rw[b];omega),b,show(i+1)*3+j - 3=i*3+j by omega]
theorem IR.set3{w:M}{g c:Nat}{L:List I3}(h:IR w b g c L)(hi:i<L.length)(n:j<3)(y:I3)(v:ZC)(e:i3V y=(i3V (L.getD i (0,[],0))).set j v):IR (w.setCell (Q g (i*3+j) Y) v) b g c (L.set i y):=by
 unfold IR;rw[LN,tN L i y j v n hi e];refine⟨by rw[LN];exact h.1,?_⟩;rcases h.2 with ⟨f,h0⟩|⟨g',cap,l,f,hb,m,h1,h2,h3,h4⟩
 {simp at f};{simp only[ML,MU,Q0] at f;obtain⟨⟨rfl,-⟩,-,rfl⟩:=f;refine .inr ⟨g,c,l.setIfInBounds (i*3+j) v,rfl,hb,?_,h1,h2,by simpa using h3,?_⟩;{simp[World.setCell,CV,m]};{rw[PD,UA,h4]}}
theorem IR.take{w:M}{g c:Nat}{L:List I3}(h:IR w b g c L)(k:Nat)(i:k<=L.length):IR w b g c (L.take k):=by
 have e:i3L (L.take k)=(i3L L).take (k*3):=by
  have h1:i3L L=i3L (L.take k)++i3L (L.drop k):=by rw[<-qx,NZ]
  have h2:(i3L (L.take k)).length=k*3:=by rw[jw,MO,PI i]
  rw[h1,<-h2,List.take_left'];rfl
 have m:(L.take k).length=k:=by rw[MO,PI i]
 unfold IR;rw[e,m];refine⟨by rw[MO,h.1,PI (by omega)],?_⟩;rcases h.2 with ⟨f,h0⟩|⟨g',cap,j,f,hb,l,h1,h2,h3,h4⟩
 {simp at f};{simp only[ML,MU,Q0] at f;obtain⟨⟨rfl,-⟩,-,rfl⟩:=f;refine .inr ⟨g,c,j,rfl,hb,l,by omega,h2,h3,?_⟩;rw[<-h4,List.take_take,PI (by omega)]}
theorem IR.fz{w:M}{g c:Nat}{L:List I3}(h:IR w f g c L)(j:Nat):w.frozen? (Q g j Y)=ZA:=by
 rcases h.2 with ⟨b,_⟩|⟨g',cap,cur,b,_,i,_⟩
 {simp at b};{simp only[ML,MU,Q0] at b;obtain⟨⟨rfl,-⟩,-,rfl⟩:=b;exact MW i _}
theorem SC.set3{w W:M}{R q g c n:Nat}{L:List I3}(h:SC w R b W q g c L n)(hi:i<L.length)(l:j<3)(y:I3)(v:ZC)(e:i3V y=(i3V (L.getD i (0,[],0))).set j v)(m:y.2.1.length<=5000):SC w R b (W.setCell (Q g (i*3+j) Y) v) q g c (L.set i y) n:=by
 have B:=(eL (b+1) W).setCell (p:=(Q g (i*3+j) Y)) h.ir.lt.1 v;refine⟨h.1.low B,h.ir.set3 hi l y v e,by rw[LN];exact h.len,λx f=>?_⟩;rcases NG f with h1|h1;{exact h.2.2.2 x h1};{rw[h1];exact m}
theorem SC.take{w W:M}{R q g c n:Nat}{L:List I3}(h:SC w R b W q g c L n)(k:Nat)(f:k<=L.length):SC w R b W q g c (L.take k) n :=
 ⟨h.1,h.ir.take k f,by rw[MO];have:=h.len;omega,λi hi=>h.2.2.2 i (UG hi)⟩
theorem SC.app0{w W W':M}{R q g c g' c' n:Nat}{L ZQ:List I3}(h:SC w R b W q g c L n)(j:IR W' (b+1) g' c' (L++ZQ))(f:W.grownBy W' (T g))(hn:L.length+ZQ.length<=n')(m:∀i∈ZQ,i.2.1.length<=5000):SC w R b W' q g' c' (L++ZQ) n':=by
 have hl:=h.1.lt;have l:=bg (eL (b+1) W) f (by omega) (λk e=>by have:=h.2.1.lt;simp at e;omega);refine⟨h.1.low l,j,by rw[cM];omega,λi hi=>?_⟩;rcases p8.1 hi with hi|hi;{exact h.2.2.2 i hi};{exact m i hi}
theorem SC.mono{w W:M}{R q g c n:Nat}{L:List I3}(h:SC w R b W q g c L n)(hn:L.length<=f):SC w R b W q g c L f:=⟨h.1,h.2.1,hn,h.2.2.2⟩
theorem SC.h{w W:M}{R q g c n:Nat}{L:List I3}(h:SC w R b W q g c L n)(i:Nat)(hi:i<L.length):(L.getD i (0,[],0)).2.1.length<=5000:=by
 have e:L.getD i (0,[],0)=L[i]:=by simp[hi]
 rw[e];exact h.2.2.2 _ (gz hi)
theorem rI{w:M}{R q:Nat}(h:Rd w R q)(v:ZC):SC w R (w.heap.size+1) (((w.alloc (N #[v] 59)).alloc (N #[Z Y 0 0] 59)).alloc (N #[] 90)) q (w.heap.size+2) 0 [] 0:=by
 have c:=(q9 w).alloc ly (N #[v] 59);have b:=c.alloc c.size (N #[Z Y 0 0] 59);have f:=b.alloc b.size (N #[] 90);have hz:((w.alloc (N #[v] 59)).alloc (N #[Z Y 0 0] 59)).heap.size=w.heap.size+2:=by simp
 have ZP:=IR.lit ((w.alloc (N #[v] 59)).alloc (N #[Z Y 0 0] 59));rw[hz] at ZP;refine⟨⟨h.aa f ly,Only.u f,?_,h.lt,by omega⟩,ZP,n8 _,λi hi=>by cases hi⟩;show _=_;rw[OP _ _ (by simp)];exact SW w _ _
