import Derived.Test.YtpmnbjkjpnclaaaGreatDoorRG
import Derived.Deep.DeepCutAuto
set_option maxRecDepth 100000
set_option maxHeartbeats 8000000
set_option linter.unusedSimpArgs false
open Go renaming Addr.mk->Q,Value.slice->Z,Value.string->Y,Value.int->J,Value.bool->ZD,Obj.cells->N,IntKind.i64->I,World->M,Value->ZC,Ending.returned->ZF,Proofs.Tryz.prog->Pg
open Option renaming none->U,some->T
open Bool renaming false->ZA
namespace Go.Proofs.YtpmnbjkjpnclaaaGreatDoor.Vp
open Tryz RowKit
variable {w W W':M}{R b q g c n q' f m g' c' n' i j:Nat}{L ZQ:List I3}
theorem eQ{t:ByteArray}{n:Int}(b:t.size<=5000)(hM:∀i∈ZQ,i.2.1.length<=5000):∀i∈(1,t.data.toList,n)::ZQ,i.2.1.length<=5000:=by
 intro i hi;rcases AT.1 hi with rfl|hi;{show t.data.toList.length<=5000;rw[PX];exact b};{exact hM i hi}
structure VS (w:M)(R:Nat)(W:M)(q g c:Nat)(L:List I3)(n:Nat):Prop where
 rd:Rd W R q
 o:Only R w W
 ir:IR W w.heap.size g c L
 tx:∀i∈L,i.2.1.length<=5000
 lo:R<w.heap.size
 le:L.length<=n
section
variable {w W W':M}{R q q' g c g' c' n:Nat}{L ZQ:List I3}
theorem VS.F (h:VS w R W q g c L n)(b:Only R W W')(hR:Rd W' R q'):VS w R W' q' g c L n:=⟨hR,h.o.trans b,h.ir.F b h.lo,h.tx,h.lo,h.le⟩
theorem VS.aa (h:VS w R W q g c L n)(b:Below W.heap.size W W'):VS w R W' q g c L n:=h.F (Only.u b) (h.rd.aa b ly)
theorem VS.low (h:VS w R W q g c L n)(b:Below w.heap.size W W')(f:IR W' w.heap.size g' c' ZQ)(hM:∀i∈ZQ,i.2.1.length<=5000):VS w R W' q g' c' ZQ ZQ.length:=⟨h.rd.low b h.lo,h.o.then b,f,hM,h.lo,n6 _⟩
theorem VS.join (h:VS w R W q g c L n)(f:IR W' w.heap.size g' c' (L++ZQ))(b:W.grownBy W' (T g))(hM:∀i∈ZQ,i.2.1.length<=5000):VS w R W' q g' c' (L++ZQ) (L++ZQ).length :=
 h.low (bg (dB w.heap.size W) b h.o.size (λk e=>by have:=h.ir.lt;simp at e;omega)) f λi hi=>by
  rcases p8.1 hi with hi|hi
  ·exact h.tx i hi
  ·exact hM i hi
theorem VS.add (cs:Array ZC)(h:VS w R W q g c L n)(f:IR W' w.heap.size g' c' (L++ZQ))(b:(W.alloc (N cs 151)).grownBy W' (T g))(hM:∀i∈ZQ,i.2.1.length<=5000):VS w R W' q g' c' (L++ZQ) (L++ZQ).length :=
 (h.aa (br.alloc ly _)).join f b hM
theorem VS.fin{ZM ZO:Nat}(h:VS w R W q g c L n)(i:m=L.length)(b:L≠[])(hn:L.length<=ZO)(f:q<=ZM):DI w R ZM ZO (ZF (Z (T (Q g 0 U)) m c)) W :=
 ⟨L,g,c,by rw[i],h.ir,b,hn,h.tx,q,f,h.rd,h.o⟩
end
section
variable {ops:Array Oper}{rest:List Oper}{o:Oper}{a:Act}{ZM:Exit->Act->M->Prop}{w W W':M}{R q g c n:Nat}{L ZQ:List I3}
theorem pX (y:o.guard=U)(s x:Operand)(E:o.op=.call { callee:=.builtin .append,args:=#[s,x],argTypes:=#[41,41] })(C:VS w R W q g c L n)(G:Below W.heap.size W W')(r:Addr)(m d:Nat)(F:a.eval s=Z (T (Q g 0 U)) L.length c)(A:a.eval x=Z (T r) m d)(t:m=ZQ.length)(z:ZQ≠[])(l:∀j u,(i3L ZQ)[j]?=T u->W'.cell? (r.add j)=T u)(hM:∀i∈ZQ,i.2.1.length<=5000)(hlen:L.length+m<=100000)
  (h:∀g' c' b f,Hid (VS w R f q g' c' b b.length)->b.length<=L.length+m->L.length+m<=b.length->wpList Pg ops ZM rest (a.put o.dst (Z (T (Q g' 0 U)) b.length c')) f):wpList Pg ops ZM (o::rest) a W':=by
 have p:=C.aa G;refine gI y s x E w.heap.size g c L F p.ir r m d ZQ A t z l (by omega) p.o.size ?_;intro g' c' f D B;exact h g' c' (L++ZQ) f (p.join D B hM) (by rw[cM,t];exact n6 _) (by rw[cM,t];exact n6 _)
theorem ie (p:o.guard=U)(s x:Operand)(y:o.op=.call { callee:=.builtin .append,args:=#[s,x],argTypes:=#[41,41] })(C:VS w R W q g c L n)(ZQ:List I3)(m:Nat){j:Array ZC}(A:a.eval s=Z (T (Q g 0 U)) L.length c)(u:a.eval x=Z (T (Q W.heap.size 0 U)) m m)(r:j.toList=i3L ZQ)(z:m=ZQ.length)(t:ZQ≠[])(hM:∀i∈ZQ,i.2.1.length<=5000)(f:L.length+m<=100000)
  (h:∀g' c' b l,Hid (VS w R l q g' c' b b.length)->b.length<=L.length+m->L.length+m<=b.length->wpList Pg ops ZM rest (a.put o.dst (Z (T (Q g' 0 U)) b.length c')) l):wpList Pg ops ZM (o::rest) a (W.alloc (N j 151)) :=
 pX p s x y C (br.alloc ly _) _ m m A u z t (r ▸ dy W j _) hM f h
end
theorem sA (u:Int)(K nc B W:Nat)(hd3:u<=11)(hd0:0<=u)(hb:K<=44)(hB4:4<=B)(hC14:14<=W)(fd:0<u->3*K+2<=B/\3*nc+14<=W/\4<=K)(bt:0<u->∀(R p:Nat) (at_:Int) (w:M),Rd w R p->p+nc<=30000->0<=at_->at_+(K:Int)<=10000->Calls Pg 175 #[.pointer (T (Q R 0 U)),J I at_,J I (u - 1)] w λe w'=>DI w R (p+nc) K e w')
  (R p:Nat) (at_:Int) (w:M) (hR:Rd w R p) (hp:p+W<=30000) (ha0:0<=at_) (ha1:at_+(B:Int)<=10000) :
  Calls Pg 175 #[.pointer (T (Q R 0 U)),J I at_,J I u] w λe w'=>DI w R (p+W) B e w':=by
 have S:=ae bt;have A0:=(q9 w).alloc ly (N #[] 151);have C:Hid (VS w R (w.alloc (N #[] 151)) p w.heap.size 0 [] 0):=⟨hR.aa A0 ly,Only.u A0,IR.lit w,λi hi=>(by cases hi),hR.lt,n6 _⟩
 clear A0 hR bt;go_enter func175,ntmps175;go_wp2_with fail;generalize World.alloc w _=W0 at C ⊢;refine(au R _ 12 _ C.rd (by omega) (by omega) (by omega)).mono ?_;rintro e l ⟨z,rfl,z0,z1,hR,b⟩;replace C:=ae (C.F b hR);clear b hR;go_upto_region 3 with fail;go_cut [19] (λsb wx=>∃O:Bool,sb=ZD O/\(O=true->6<z)/\(O=ZA->6<z->0<u)/\Hid (VS w R wx (p+1) w.heap.size 0 [] 0));case first =>
  by_cases h2:u<=0;{by_cases h3:6<z;{go_wp2;go_meet;exact⟨true,rfl,λ_=>h3,(λh=>by cases h),C.out⟩};{go_wp2;go_meet;exact⟨ZA,rfl,(λh=>by cases h),λ_ h=>absurd h (by omega),C⟩}};{go_wp2;go_meet;exact⟨ZA,rfl,(λh=>by cases h),λ_ _=>by omega,C.out⟩}
 case rest =>
 clear C;obtain⟨O,rfl,ZI,ZK,C⟩:=hcut;go_upto_if 19 with fail;go_cut [7,8] (λso sk wx=>∃(g c q:Nat) (L:List I3) (k:Int),so=Z (T (Q g 0 U)) L.length c/\sk=J I k/\0<=k/\k<12/\(6<k->0<u)/\q<=p+1/\Hid (VS w R wx q g c L 0));case first =>
  cases O with
  |true =>
   have h2:=ZI rfl;have G:IntKind.i64.wrap (z - 6)=z - 6:=by rw[p9];omega
   go_wp2;go_meet;exact⟨_,_,_,[],_,rfl,rfl,by omega,by omega,λh=>by omega,n6 _,C⟩
  |false =>have aq:=ae (ZK rfl);go_wp2;go_meet;exact⟨_,_,_,[],_,rfl,rfl,by omega,by omega,aq,n6 _,C⟩
 case rest =>
 clear C;obtain⟨g,c,q,L,k,rfl,rfl,hk0,hk1,dg,hq,C⟩:=hcut;have hL0:=C.le;rcases(show(k=0∨k=1)∨(k=2∨k=3∨k=4∨k=6)∨k=5∨(k=7∨k=8∨k=9∨k=10)∨k=11 by omega) with P|P|rfl|P|rfl
 ·rcases P with rfl|rfl;all_goals
   go_wp2_with fail;refine(gX R _ _ C.rd (by omega)).mono ?_;rintro e l ⟨t,rfl,ht,q2,X,hR,b⟩;replace C:=ae (C.F b hR);clear b hR;go_wp2_with fail;with_reducible first|refine(aW _ _).mono ?_|refine(bw _ _ _).mono ?_|refine(bm _ _).mono ?_
   rintro e l ⟨rfl,j⟩;replace C:=ae (C.aa j);clear j;go_wp2_with (at_builtin;refine ie rfl _ _ rfl C [(1,t.data.toList,0)] 1 (by simp[Act.eval]) (by simp[Act.eval]) rfl rfl (by simp) (eQ (by omega) (by decide)) (by omega) ?_);intro ZL c1 s ZJ C V u1;go_wp2;go_ret;exact C.fin rfl (GC.1 (by omega)) (by omega) (by omega)
 ·rcases P with rfl|rfl|rfl|rfl;all_goals
   go_wp2_with fail;refine(ef R _ _ C.rd (by omega)).mono ?_;rintro e l ⟨t,rfl,ht,hR,b⟩;replace C:=ae (C.F b hR);clear b hR
   iterate 2
    go_wp2_with fail;with_reducible first|refine(aW _ _).mono ?_|refine(bw _ _ _).mono ?_|refine(bm _ _).mono ?_
    rintro e l ⟨rfl,j⟩;replace C:=ae (C.aa j);clear j
   go_wp2_with (at_builtin;first|(refine ie rfl _ _ rfl C [(1,t.data.toList,0),(12,[],0)] 2 (by simp[Act.eval]) (by simp[Act.eval]) rfl rfl (by simp) (eQ (by omega) (by decide)) (by omega) ?_)|(refine ie rfl _ _ rfl C [(1,t.data.toList,0),(13,[],0)] 2 (by simp[Act.eval]) (by simp[Act.eval]) rfl rfl (by simp) (eQ (by omega) (by decide)) (by omega) ?_));intro ZL c1 s ZJ C V u1;go_wp2;go_ret;exact C.fin rfl (GC.1 (by omega)) (by omega) (by omega)
 ·skip;go_wp2_with fail;refine(ef R _ _ C.rd (by omega)).mono ?_;rintro e l ⟨t,rfl,ht,hR,b⟩;replace C:=ae (C.F b hR);clear b hR;iterate 2
   go_wp2_with fail;with_reducible first|refine(aW _ _).mono ?_|refine(bw _ _ _).mono ?_|refine(bm _ _).mono ?_
   rintro e l ⟨rfl,j⟩;replace C:=ae (C.aa j);clear j
  go_wp2_with fail;refine(au R _ 3 _ C.rd (by omega) (by omega) (by omega)).mono ?_;rintro e l ⟨y,rfl,y0,y1,hR,b⟩;replace C:=ae (C.F b hR);clear b hR;iterate 2
   go_wp2_with fail;with_reducible first|refine(aW _ _).mono ?_|refine(bw _ _ _).mono ?_|refine(bm _ _).mono ?_
   rintro e l ⟨rfl,j⟩;replace C:=ae (C.aa j);clear j
  go_wp2_with (at_builtin;refine ie rfl _ _ rfl C [(1,t.data.toList,0),(12,[],0),(5,[],y),(12,[],0)] 4 (by simp[Act.eval]) (by simp[Act.eval]) rfl rfl (by simp) (eQ (by omega) (by intro i hi;simp only[AT,nj,QZ] at hi;rcases hi with rfl|rfl|rfl<;>exact E4 _)) (by omega) ?_);intro ZL c1 s ZJ C V u1;go_wp2;go_ret;exact C.fin rfl (GC.1 (by omega)) (by omega) (by omega)
 ·have D:=dg (by omega);obtain⟨ZI,ZK,aq⟩:=fd D;rcases P with rfl|rfl|rfl|rfl;all_goals
   go_wp2_with fail;refine(S D R _ at_ _ C.rd (by omega) (by omega) (by omega)).mono ?_;rintro e l ⟨ZQ,F,E,rfl,hM,f,ZM,m,q1,hq1,hR,b⟩;replace C:=ae (C.F b hR);have ZN:=ae hM.news;have o:=ae m;have n:=ae f;have H:=GC.2 f;clear b hR hM m f;go_wp2_with (at_builtin;refine pX rfl _ _ rfl C br (Q F 0 U) ZQ.length E (by simp[Act.eval]) (by simp[Act.eval]) rfl n ZN o (by omega) ?_);intro ZL c1 s ZJ C V u1;clear ZN o n
  ·skip;go_wp2_with fail;refine(S D R _ (at_+(s.length:Int)) _ C.rd (by omega) (by omega) (by omega)).mono ?_;rintro e l ⟨ZQ,F,E,rfl,hM,f,ZM,m,q2,X,hR,b⟩;replace C:=ae (C.F b hR);have ZN:=ae hM.news;have o:=ae m;have n:=ae f;have H:=GC.2 f;clear b hR hM m f;go_wp2_with (at_builtin;refine pX rfl _ _ rfl C br (Q F 0 U) ZQ.length E (by simp[Act.eval]) (by simp[Act.eval]) rfl n ZN o (by omega) ?_);intro g2 c2 L2 W2 C l2 u2;clear ZN o n;go_wp2_with fail;refine(au R _ 2 _ C.rd (by omega) (by omega) (by omega)).mono ?_;rintro e l ⟨y,rfl,y0,y1,hR,b⟩;replace C:=ae (C.F b hR);clear b hR;go_wp2_with fail;with_reducible first|refine(aW _ _).mono ?_|refine(bw _ _ _).mono ?_|refine(bm _ _).mono ?_
   rintro e l ⟨rfl,j⟩;replace C:=ae (C.aa j);clear j;go_wp2_with (at_builtin;refine ie rfl _ _ rfl C [((2+4*y),[],0)] 1 (by simp[Act.eval]) (by simp[Act.eval]) rfl rfl (by simp) (λi hi=>by rw[nD.1 hi];exact E4 _) (by omega) ?_);intro g3 c3 ZO W3 C l3 u3;go_wp2;go_ret;exact C.fin rfl (GC.1 (by omega)) (by omega) (by omega)
  ·skip;go_wp2_with fail;refine(au R _ 3 _ C.rd (by omega) (by omega) (by omega)).mono ?_;rintro e l ⟨x,rfl,x0,x1,hR,b⟩;replace C:=ae (C.F b hR);clear b hR;go_wp2_with fail;refine(au R _ 4 _ C.rd (by omega) (by omega) (by omega)).mono ?_;rintro e l ⟨y,rfl,y0,y1,hR,b⟩;replace C:=ae (C.F b hR);clear b hR;go_wp2_with fail;with_reducible first|refine(aW _ _).mono ?_|refine(bw _ _ _).mono ?_|refine(bm _ _).mono ?_
   rintro e l ⟨rfl,j⟩;replace C:=ae (C.aa j);clear j;go_wp2_with (at_builtin;refine ie rfl _ _ rfl C [((3+x),[],y)] 1 (by simp[Act.eval]) (by simp[Act.eval]) rfl rfl (by simp) (λi hi=>by rw[nD.1 hi];exact E4 _) (by omega) ?_);intro g2 c2 L2 W2 C l2 u2;go_wp2;go_ret;exact C.fin rfl (GC.1 (by omega)) (by omega) (by omega)
  all_goals
   go_wp2_with fail;with_reducible first|refine(aW _ _).mono ?_|refine(bw _ _ _).mono ?_|refine(bm _ _).mono ?_
   rintro e l ⟨rfl,j⟩;replace C:=ae (C.aa j);clear j;go_wp2_with (at_builtin;refine ie rfl _ _ rfl C [(11,[],0)] 1 (by simp[Act.eval]) (by simp[Act.eval]) rfl rfl (by simp) (λi hi=>by rw[nD.1 hi];exact E4 _) (by omega) ?_);intro g2 c2 L2 W2 C l2 u2;go_wp2_with fail;refine(S D R _ (at_+(L2.length:Int)) _ C.rd (by omega) (by omega) (by omega)).mono ?_;rintro e l ⟨ZQ,F,E,rfl,hM,f,ZM,m,q3,hq3,hR,b⟩;replace C:=ae (C.F b hR);have ZN:=ae hM.news;have o:=ae m;have n:=ae f;have H:=GC.2 f;clear b hR hM m f;go_wp2_with (at_builtin;refine pX rfl _ _ rfl C br (Q F 0 U) ZQ.length E (by simp[Act.eval]) (by simp[Act.eval]) rfl n ZN o (by omega) ?_);intro g3 c3 ZO W3 C l3 u3;clear ZN o n;go_wp2_with fail;with_reducible first|refine(aW _ _).mono ?_|refine(bw _ _ _).mono ?_|refine(bm _ _).mono ?_
   rintro e l ⟨rfl,j⟩;replace C:=ae (C.aa j);clear j;go_wp2_with (at_builtin;refine ie rfl _ _ rfl C [(10,[],0)] 1 (by simp[Act.eval]) (by simp[Act.eval]) rfl rfl (by simp) (λi hi=>by rw[nD.1 hi];exact E4 _) (by omega) ?_);intro g4 c4 L4 W4 C l4 u4;obtain⟨⟨n0,cn⟩,fz⟩:=C.ir.cellN (i:=s.length) (by omega);have il:(s.length:Int)<(L4.length:Int):=by omega
   have gl:=C.ir.lt.2;go_wp2_with fail;refine(oq _ _).mono ?_;rintro e l ⟨rfl,G⟩;rw[G];clear G;generalize (if 200<at_+(L4.length:Int) then 200 else at_+(L4.length:Int))=sv;obtain⟨L5,r,A,ZP⟩:=C.ir.setN (i:=s.length) (by omega) sv;replace C:=ae (C.low ((dB w.heap.size W4).setCell (p:=(Q g4 (s.length*3+2) U)) C.ir.lt.1 (J I sv)) ZP (A C.tx));go_upto_region 33 with fail;generalize World.setCell W4 _ _=W5 at C ⊢;rw[<-r];have b5:=Nat.le_of_eq r;have d5:=Nat.le_of_eq r.symm;clear r A ZP cn fz gl il;go_wp2_with fail;refine(S D R _ (at_+(L5.length:Int)) _ C.rd (by omega) (by omega) (by omega)).mono ?_;rintro e l ⟨ZQ,F,E,rfl,hM,f,ZM,m,q6,hq6,hR,b⟩;replace C:=ae (C.F b hR);have ZN:=ae hM.news;have o:=ae m;have n:=ae f;have H:=GC.2 f;clear b hR hM m f;go_wp2_with (at_builtin;refine pX rfl _ _ rfl C br (Q F 0 U) ZQ.length E (by simp[Act.eval]) (by simp[Act.eval]) rfl n ZN o (by omega) ?_);intro g6 c6 L6 W6 C l6 u6;clear ZN o n;obtain⟨⟨n0,cn⟩,fz⟩:=C.ir.cellN (i:=ZO.length) (by omega);have il:(ZO.length:Int)<(L6.length:Int):=by omega
   have gl:=C.ir.lt.2;go_wp2_with fail;refine(oq _ _).mono ?_;rintro e l ⟨rfl,G⟩;rw[G];clear G;generalize (if 200<at_+(L6.length:Int) then 200 else at_+(L6.length:Int))=sv;obtain⟨L7,r,A,ZP⟩:=C.ir.setN (i:=ZO.length) (by omega) sv;replace C:=ae (C.low ((dB w.heap.size W6).setCell (p:=(Q g6 (ZO.length*3+2) U)) C.ir.lt.1 (J I sv)) ZP (A C.tx));go_upto_region 35 with fail;generalize World.setCell W6 _ _=W7 at C ⊢;rw[<-r];have b7:=Nat.le_of_eq r;have d7:=Nat.le_of_eq r.symm;clear r A ZP cn fz gl il;go_wp2;go_ret;exact C.fin rfl (GC.1 (by omega)) (by omega) (by omega)
 ·skip;go_wp2_with fail;refine(gX R _ _ C.rd (by omega)).mono ?_;rintro e l ⟨t,rfl,ht,q2,X,hR,b⟩;replace C:=ae (C.F b hR);clear b hR;iterate 4
   go_wp2_with fail;with_reducible first|refine(aW _ _).mono ?_|refine(bw _ _ _).mono ?_|refine(bm _ _).mono ?_
   rintro e l ⟨rfl,j⟩;replace C:=ae (C.aa j);clear j
  go_wp2_with (at_builtin;refine ie rfl _ _ rfl C [(1,t.data.toList,0),(7,[],0),(8,[],0),(9,[],0)] 4 (by simp[Act.eval]) (by simp[Act.eval]) rfl rfl (by simp) (eQ (by omega) (by decide)) (by omega) ?_);intro ZL c1 s ZJ C V u1;go_wp2;go_ret;exact C.fin rfl (GC.1 (by omega)) (by omega) (by omega)
theorem Br (R p:Nat)(at_:Int)(w:M)(hR:Rd w R p)(f:p+14<=30000)(c:0<=at_)(h1:at_+4<=10000):Calls Pg 175 #[.pointer (T (Q R 0 U)),J I at_,J I 0] w λe b=>DI w R (p+14) 4 e b :=
 sA 0 4 14 4 14 (by omega) (by omega) (by omega) (by omega) (by omega) (λh=>absurd h (by omega)) (λh=>absurd h (by omega)) R p at_ w hR f c h1
theorem mZ (d b c:Nat)(hd3:(d:Int)<=10)(hb:b<=44)(i:4<=b)(j:∀(R p:Nat) (at_:Int) (w:M),Rd w R p->p+c<=30000->0<=at_->at_+(b:Int)<=10000->Calls Pg 175 #[.pointer (T (Q R 0 U)),J I at_,J I d] w λe f=>DI w R (p+c) b e f)
  (R p:Nat) (at_:Int) (w:M) (hR:Rd w R p) (l:p+(3*c+14)<=30000) (g:0<=at_) (h:at_+((3*b+2:Nat):Int)<=10000) :
  Calls Pg 175 #[.pointer (T (Q R 0 U)),J I at_,J I ((d:Int)+1)] w λe f=>DI w R (p+(3*c+14)) (3*b+2) e f :=
 sA ((d:Int)+1) b c (3*b+2) (3*c+14) (by omega) (by omega) hb (by omega) (by omega) (λ_=>⟨n6 _,n6 _,i⟩) (λ_=>by rw[Int.add_sub_cancel];exact j) R p at_ w hR l g h
def VD (b c:Nat)(d:Int):Prop:=∀(R p:Nat) (at_:Int) (w:M),Rd w R p->p+b<=30000->0<=at_->at_+(c:Int)<=10000->Calls Pg 175 #[.pointer (T (Q R 0 U)),J I at_,J I d] w λe f=>DI w R (p+b) c e f
theorem vd0:VD 14 4 ((0:Nat):Int):=λR p at_ w hR c b h1=>Br R p at_ w hR c b (by omega)
theorem vd1:VD 56 14 ((1:Nat):Int):=λR p at_ w hR hp b h1=>mZ 0 4 14 (by omega) (by omega) (by omega) vd0 R p at_ w hR (by omega) b (by omega)
theorem vd2:VD 182 44 ((2:Nat):Int):=λR p at_ w hR hp b h1=>mZ 1 14 56 (by omega) (by omega) (by omega) vd1 R p at_ w hR (by omega) b (by omega)
theorem vd3:VD 560 134 ((3:Nat):Int):=λR p at_ w hR hp b h1=>mZ 2 44 182 (by omega) (by omega) (by omega) vd2 R p at_ w hR (by omega) b (by omega)
theorem DI.mono{b:M}{e:Ending}(h:DI w R q n e b)(l:q<=q')(hn:n<=f):DI w R q' f e b:=by obtain⟨L,g,c,h1,h2,h3,h4,m,p,i,j⟩:=h;exact⟨L,g,c,h1,h2,h3,p7 h4 hn,m,p,p7 i l,j⟩
theorem wW (R p:Nat)(z:Int)(hz:z=0∨z=1)(w:M)(hR:Rd w R p)(hp:p<=29000):Calls Pg 175 #[.pointer (T (Q R 0 U)),J I 0,J I (2+z)] w λe b=>DI w R (p+560) 134 e b:=by
 rcases hz with rfl|rfl;{exact(vd2 R p 0 w hR (by omega) (by omega) (by omega)).mono λe b h=>h.mono (by omega) (by omega)};{exact vd3 R p 0 w hR (by omega) (by omega) (by omega)}
def ST (w:M)(R b:Nat)(W:M)(q:Nat):Prop:=Rd W R q/\Only R w W/\PB W b (Z U 0 0)/\R<w.heap.size/\w.heap.size<=b
def SC (w:M)(R b:Nat)(W:M)(q g c:Nat)(L:List I3)(n:Nat):Prop:=ST w R b W q/\IR W (b+1) g c L/\L.length<=n/\∀i∈L,i.2.1.length<=5000
theorem ST.rd (h:ST w R b W q):Rd W R q:=h.1
theorem ST.lt (h:ST w R b W q):b<W.heap.size:=h.2.2.1.lt
theorem ST.low (h:ST w R b W q)(hb:Below (b+1) W W'):ST w R b W' q:=by obtain⟨h1,h2,h3,h4,c⟩:=h;exact⟨h1.low hb (by omega),h2.then (hb.mono (by omega)),h3.aa hb (by omega),h4,c⟩
theorem ST.aa (h:ST w R b W q)(hb:Below W.heap.size W W'):ST w R b W' q:=h.low (hb.mono h.lt)
theorem PB.F{c:M}{v:ZC}(h:PB w b v)(f:Only R w c)(hR:b≠R):PB c b v:=(f.block b h.lt hR).trans h
theorem ST.F (h:ST w R b W q)(c:Only R W W')(hR:Rd W' R q'):ST w R b W' q':=by obtain⟨h1,h2,h3,h4,f⟩:=h;exact⟨hR,h2.trans c,h3.F c (by omega),h4,f⟩
theorem ST.new (h:Rd w R q):ST w R w.heap.size (w.alloc (N #[Z U 0 0] 43)) q:=by have b:=(q9 w).alloc ly (N #[Z U 0 0] 43);exact⟨h.aa b ly,Only.u b,nL w _,h.lt,n6 _⟩
theorem SC.st (h:SC w R b W q g c L n):ST w R b W q:=h.1
theorem SC.ir (h:SC w R b W q g c L n):IR W (b+1) g c L:=h.2.1
theorem SC.len (h:SC w R b W q g c L n):L.length<=n:=h.2.2.1
theorem SC.up (h:SC w R b W q g c L n)(f:n<=m):SC w R b W q g c L m:=⟨h.1,h.2.1,p7 h.2.2.1 f,h.2.2.2⟩
theorem SC.aa (h:SC w R b W q g c L n)(hb:Below W.heap.size W W'):SC w R b W' q g c L n :=
 ⟨h.1.aa hb,h.2.1.aa hb ly,h.2.2⟩
theorem SC.F (h:SC w R b W q g c L n)(f:Only R W W')(hR:Rd W' R q'):SC w R b W' q' g c L n :=
 ⟨h.1.F f hR,h.2.1.F f (by have:=h.1.2.2.2;omega),h.2.2⟩
theorem SC.di (h:ST w R b W q)(j:IR W' W.heap.size g c L)(hn:L.length<=n)(f:∀i∈L,i.2.1.length<=5000)(l:Only R W W')(hR:Rd W' R q'):SC w R b W' q' g c L n :=
 ⟨h.F l hR,aB j h.lt,hn,f⟩
theorem SC.app (f:Array ZC)(h:SC w R b W q g c L n)(m:IR W' (b+1) g' c' (L++ZQ))(l:(W.alloc (N f 151)).grownBy W' (T g))(hn:n+ZQ.length<=n')(j:∀i∈ZQ,i.2.1.length<=5000):SC w R b W' q g' c' (L++ZQ) n':=by
 have o:=h.1.lt;have p:=bg ((dB (b+1) W).alloc o (N f 151)) l (by simp;omega) (λk e=>by have:=h.2.1.lt;simp at e;omega);refine⟨h.1.low p,m,by rw[cM];have:=h.len;omega,λi hi=>?_⟩;rcases p8.1 hi with hi|hi;{exact h.2.2.2 i hi};{exact j i hi}
theorem IR.new (W:M)(b:Nat)(hb:b<=W.heap.size)(L:List I3)(c:Array ZC)(f:c.toList=i3L L)(n:Nat)(hn:n=L.length)(hm:n<=100000):IR (W.alloc (N c 151)) b W.heap.size n L:=by
 subst hn;have hz:c.size=L.length*3:=by rw[<-jG,<-f,PX]
 refine⟨jG L,.inr ⟨W.heap.size,L.length,c,rfl,hb,nL W _,n6 _,by unfold maxLen;omega,hz,?_⟩⟩;rw[f,IU (by rw[jG];omega)]
theorem SC.lit (h:ST w R b W q)(L:List I3)(c:Array ZC)(g:c.toList=i3L L)(n:Nat)(hn:n=L.length)(j:n<=100000)(f:∀i∈L,i.2.1.length<=5000):SC w R b (W.alloc (N c 151)) q W.heap.size n L n :=
 ⟨h.aa (br.alloc ly _),IR.new W (b+1) h.lt L c g n hn j,by omega,f⟩
theorem SC.fin (h:SC w R b W q g c L n)(v:ZC):PB (W.setCell (Q b 0 U) v) b v/\IR (W.setCell (Q b 0 U) v) w.heap.size g c L/\L.length<=n/\(∀i∈L,i.2.1.length<=5000)/\Rd (W.setCell (Q b 0 U) v) R q/\Only R w (W.setCell (Q b 0 U) v):=by obtain⟨⟨h1,h2,h3,h4,m⟩,j,l,f⟩:=h;have B:=(dB w.heap.size W).setCell (p:=(Q b 0 U)) m v;exact⟨h3.set v,aB (Ek j (by omega) v) (by omega),l,f,h1.low B h4,h2.then B⟩
def DP (w:M)(R q lo n:Nat)(e:Ending)(w':M):Prop:=∃(L:List I3) (g c:Nat),e=ZF (.agg #[Z (T (Q g 0 U)) L.length c])/\IR w' w.heap.size g c L/\lo<=L.length/\L.length<=n/\(∀i∈L,i.2.1.length<=5000)/\∃q':Nat,q'<=q/\Rd w' R q'/\Only R w w'
theorem ko{fn:Func}{p:Tmp}(h:fn.results=#[.cell p 43])(tmps:Array ZC)(w:M)(g:Nat)(v:ZC)(c:tmps.getD p undef=.pointer (T (Q g 0 U)))(b:PB w g v):(results fn tmps).run Pg w=.ok (.agg #[v]) w :=
 results_cell_row h tmps w g 43 #[v] (0,0) _ c b underlying43 rfl wT
def dn (L:List I3)(i:Nat):Ins:=⟨(L.getD i (0,[],0)).1,⟨(L.getD i (0,[],0)).2.1.toArray⟩,(L.getD i (0,[],0)).2.2⟩
theorem Bt:∀(L:List I3) (i:Nat),i<L.length->(i3L L)[i*3]?=T (J I (dn L i).op)/\(i3L L)[i*3+1]?=T (Y (dn L i).s)/\(i3L L)[i*3+2]?=T (J I (dn L i).n)
 |[],i,h=>by simp at h
 |x::L,0,_=>⟨rfl,rfl,rfl⟩
 |x::L,i+1,h=>by
  have f:=Bt L i (by simpa using h);have b:(i3V x).length=3:=rfl;have e:∀k,(i3L (x::L))[(i+1)*3+k]?=(i3L L)[i*3+k]?:=λk=>by show(i3V x++i3L L)[(i+1)*3+k]?=_;rw[IX (by rw[b];omega),b,show(i+1)*3+k - 3=i*3+k by omega]
  have c:=e 0;rw[PT,PT] at c;rw[c,e 1,e 2];exact f
theorem IR.at (h:IR w b g c L):∀i,i<L.length->AtIns w g 0 i (dn L i):=by intro i hi;obtain⟨f,h1,h2⟩:=Bt L i hi;have c0:=h.news _ _ f;have c1:=h.news _ _ h1;have c2:=h.news _ _ h2;rw[jc] at c0 c1 c2;exact⟨c0,c1,c2⟩
theorem Hd (b:∀i∈L,i.2.1.length<=5000):∀i,i<L.length->(dn L i).s.size<=maxLen:=by
 intro i hi;have h:=b L[i] (gz hi);have e:L.getD i (0,[],0)=L[i]:=by simp[hi]
 show(L.getD i (0,[],0)).2.1.toArray.size<=maxLen;rw[e,CV];unfold maxLen;omega
theorem wX (n:Nat)(w:M)(hn:(n:Int)<=300):Calls Pg 176 #[J I n] w λe f=>∃(L:List I3) (g:Nat),e=ZF (Z (T (Q g 0 U)) 7 7)/\IR f w.heap.size g 7 L/\L.length=7/\(∀i∈L,i.2.1.length<=5000)/\Below w.heap.size w f:=by
 go_enter func176,ntmps176;go_wp2_with fail;refine(eP ⟨#[97,32]⟩ n _ (by show 2*n<=4000;omega) (by omega)).mono ?_;rintro e Wx ⟨t,rfl,m,o⟩;rw[o];have u:t.size<=5000:=p7 m (by show 2*n<=5000;omega);clear m o;go_wp2_with fail;refine(bm t _).mono ?_;rintro e W1 ⟨rfl,b⟩;have q:=ae (b);clear b;go_wp2_with fail;refine(aW 7 _).mono ?_;rintro e W2 ⟨rfl,b⟩;have l:=ae (q.trans (b.mono q.size));clear b;go_wp2_with fail;refine(bw 5 0 _).mono ?_;rintro e W3 ⟨rfl,b⟩;have j:=ae (l.trans (b.mono l.size));clear b;go_wp2_with fail;refine(aW 13 _).mono ?_;rintro e W4 ⟨rfl,b⟩;have r:=ae (j.trans (b.mono j.size));clear b;go_wp2_with fail;refine(aW 9 _).mono ?_;rintro e W5 ⟨rfl,b⟩;have p:=ae (r.trans (b.mono r.size));clear b;go_wp2_with fail;refine(bw 4 2 _).mono ?_;rintro e W6 ⟨rfl,b⟩;have h:=ae (p.trans (b.mono p.size));clear b;go_wp2_with fail;refine(bw 10 1 _).mono ?_;rintro e s ⟨rfl,b⟩;have c:=ae (h.trans (b.mono h.size));clear b;go_wp2;go_ret;refine⟨[(1,t.data.toList,0),(7,[],0),(5,[],0),(13,[],0),(9,[],0),(4,[],2),(10,[],1)],_,rfl,IR.new s _ c.size _ _ rfl _ rfl (by omega),rfl,?_,c.alloc c.size _⟩;intro i hi;simp only[AT,nj,QZ] at hi;rcases hi with rfl|rfl|rfl|rfl|rfl|rfl|rfl;{show t.data.toList.length<=5000;rw[PX];exact u};all_goals exact E4 _
theorem jt (R p:Nat)(w:M)(hR:Rd w R p)(hp:p<=20000):Calls Pg 124 #[.pointer (T (Q R 0 U))] w λe w'=>DP w R (p+600) 1 140 e w':=by
 have E:=ae (ST.new hR);clear hR;go_enter func124,ntmps124;go_wp2_with fail;generalize World.alloc w _=W0 at E ⊢;refine(au R _ 2 _ E.rd (by omega) (by omega) (by omega)).mono ?_;rintro e W1 ⟨d,rfl,V,P,hR,h⟩;have O:=ae (E.F h hR);clear h hR E;go_wp2_with fail;refine(wW R _ d (by omega) _ O.rd (by omega)).mono ?_;rintro e W2 ⟨L,g,c,rfl,l,ZL,hn,D,ZM,hq2,hR,h⟩;have C:Hid (SC w R w.heap.size W2 ZM g c L 134):=SC.di O l hn D h hR;clear h hR l D ZL hn O;go_wp2_with fail;refine(au R _ 24 _ C.st.rd (by omega) (by omega) (by omega)).mono ?_;rintro e b ⟨z,rfl,z0,z1,hR,h⟩;replace C:=ae (C.F h hR);clear h hR;go_upto_if 13 with fail;go_cut [3] (λm j=>∃(L:List I3) (g c q:Nat),m=Z (T (Q g 0 U)) L.length c/\q<=ZM+2/\Hid (SC w R w.heap.size j q g c L 135));case first =>
  rcases(show z=0∨z=1∨z=2∨3<=z by omega) with rfl|rfl|rfl|h3
  ·iterate 1
    go_wp2_with fail;with_reducible first|refine(aW _ _).mono ?_|refine(bw _ _ _).mono ?_|refine(bm _ _).mono ?_
    rintro e b ⟨rfl,f⟩;replace C:=ae (C.aa f);clear f
   have X:=ae (C.aa ((q9 b).alloc ly (N #[J I 14,Y ⟨#[]⟩,J I 0] 151)));have ln:=C.len;go_wp2_with (at_builtin;refine gI rfl (.tmp 14) (.tmp 16) rfl (w.heap.size+1) g c L (by simp[Act.eval]) X.ir (Q b.heap.size 0 U) 1 1 [(14,[],0)] (by simp[Act.eval]) rfl (by simp) (dy b #[J I 14,Y ⟨#[]⟩,J I 0] _) (by simp only[eL,nX];omega) (by have:=C.st.lt;simp;omega) ?_;intro B c1 K l s);go_meet;exact⟨_,B,c1,_,by simp,by omega,(C.app (n':=135) _ l s (by show 134+1<=135;omega) (λi hi=>by rw[nD.1 hi];exact E4 _))⟩
  ·iterate 1
    go_wp2_with fail;with_reducible first|refine(aW _ _).mono ?_|refine(bw _ _ _).mono ?_|refine(bm _ _).mono ?_
    rintro e b ⟨rfl,f⟩;replace C:=ae (C.aa f);clear f
   have X:=ae (C.aa ((q9 b).alloc ly (N #[J I 10,Y ⟨#[]⟩,J I 0] 151)));have ln:=C.len;go_wp2_with (at_builtin;refine gI rfl (.tmp 20) (.tmp 22) rfl (w.heap.size+1) g c L (by simp[Act.eval]) X.ir (Q b.heap.size 0 U) 1 1 [(10,[],0)] (by simp[Act.eval]) rfl (by simp) (dy b #[J I 10,Y ⟨#[]⟩,J I 0] _) (by simp only[eL,nX];omega) (by have:=C.st.lt;simp;omega) ?_;intro B c1 K l s);go_meet;exact⟨_,B,c1,_,by simp,by omega,(C.app (n':=135) _ l s (by show 134+1<=135;omega) (λi hi=>by rw[nD.1 hi];exact E4 _))⟩
  ·go_wp2_with fail;refine(au R _ 15 _ C.st.rd (by omega) (by omega) (by omega)).mono ?_;rintro e b ⟨y,rfl,S,ZJ,hR,h⟩;replace C:=ae (C.F h hR);clear h hR;iterate 1
    go_wp2_with fail;with_reducible first|refine(aW _ _).mono ?_|refine(bw _ _ _).mono ?_|refine(bm _ _).mono ?_
    rintro e b ⟨rfl,f⟩;replace C:=ae (C.aa f);clear f
   have X:=ae (C.aa ((q9 b).alloc ly (N #[J I (1+y),Y ⟨#[]⟩,J I 0] 151)));have ln:=C.len;go_wp2_with (at_builtin;refine gI rfl (.tmp 26) (.tmp 31) rfl (w.heap.size+1) g c L (by simp[Act.eval]) X.ir (Q b.heap.size 0 U) 1 1 [((1+y),[],0)] (by simp[Act.eval]) rfl (by simp) (dy b #[J I (1+y),Y ⟨#[]⟩,J I 0] _) (by simp only[eL,nX];omega) (by have:=C.st.lt;simp;omega) ?_;intro B c1 K l s);go_meet;exact⟨_,B,c1,_,by simp,by omega,(C.app (n':=135) _ l s (by show 134+1<=135;omega) (λi hi=>by rw[nD.1 hi];exact E4 _))⟩
  ·have n0:(z == 0)=ZA:=by simp;omega
   have n1:(z == 1)=ZA:=by simp;omega
   have n2:(z == 2)=ZA:=by simp;omega
   go_wp2;go_meet;exact⟨L,g,c,_,rfl,by omega,C.up (by omega)⟩
 case rest =>
 clear C;obtain⟨F,g0,c0,q3,rfl,hq3,C⟩:=hcut;iterate 1
  go_wp2_with fail;with_reducible first|refine(aW _ _).mono ?_|refine(bw _ _ _).mono ?_|refine(bm _ _).mono ?_
  rintro e b ⟨rfl,f⟩;replace C:=ae (C.aa f);clear f
 have X:=ae (C.aa ((q9 b).alloc ly (N #[J I 15,Y ⟨#[]⟩,J I 0] 151)));have ln:=C.len;go_upto_if 38 with (at_builtin;refine gI rfl (.tmp 33) (.tmp 35) rfl (w.heap.size+1) g0 c0 F (by simp[Act.eval]) X.ir (Q b.heap.size 0 U) 1 1 [(15,[],0)] (by simp[Act.eval]) rfl (by simp) (dy b #[J I 15,Y ⟨#[]⟩,J I 0] _) (by simp only[eL,nX];omega) (by have:=C.st.lt;simp;omega) ?_;intro g c K l s);replace C:=ae (C.app (n':=136) _ l s (by show 135+1<=136;omega) (λi hi=>by rw[nD.1 hi];exact E4 _));clear l s X ln;generalize hL:F++[(15,[],0)]=L at C;have hn1:F.length+1=L.length:=by rw[<-hL,cM];rfl
 rw[hn1];clear hL hn1;go_cut [3] (λm j=>∃(L:List I3) (g c q:Nat),m=Z (T (Q g 0 U)) L.length c/\q<=q3/\Hid (SC w R w.heap.size j q g c L 140));case first =>
  by_cases hz:z=3
  ·subst hz;iterate 4
    go_wp2_with fail;with_reducible first|refine(aW _ _).mono ?_|refine(bw _ _ _).mono ?_|refine(bm _ _).mono ?_
    rintro e b ⟨rfl,f⟩;replace C:=ae (C.aa f);clear f
   have A:=ae (SC.lit C.st [(1,[97,98,99,100,101,102,103,104],0),(7,[],0),(2,[],0),(10,[],1)] #[J I 1,Y ⟨#[97,98,99,100,101,102,103,104]⟩,J I 0,J I 7,Y ⟨#[]⟩,J I 0,J I 2,Y ⟨#[]⟩,J I 0,J I 10,Y ⟨#[]⟩,J I 1] rfl 4 rfl (by omega) (by decide));go_wp2;go_meet;exact⟨_,_,_,_,rfl,by omega,A.up (by omega)⟩
  {go_wp2;go_meet;exact⟨L,g,c,_,rfl,by omega,C.up (by omega)⟩}
 case rest =>
 clear C;obtain⟨L,g,c,q4,rfl,hq4,C⟩:=hcut;go_upto_if 45 with fail;go_cut [3] (λm j=>∃(L:List I3) (g c q:Nat),m=Z (T (Q g 0 U)) L.length c/\q<=q4+1/\Hid (SC w R w.heap.size j q g c L 140));case first =>
  by_cases hz:z=4
  ·subst hz;go_wp2_with fail;refine(ef R _ _ C.st.rd (by omega)).mono ?_;rintro e b ⟨t,rfl,ZO,hR,h⟩;replace C:=ae (C.F h hR);clear h hR;iterate 4
    go_wp2_with fail;with_reducible first|refine(aW _ _).mono ?_|refine(bw _ _ _).mono ?_|refine(bm _ _).mono ?_
    rintro e b ⟨rfl,f⟩;replace C:=ae (C.aa f);clear f
   have A:=ae (SC.lit C.st [(1,t.data.toList,0),(13,[],0),(9,[],0),(10,[],0)] #[J I 1,Y t,J I 0,J I 13,Y ⟨#[]⟩,J I 0,J I 9,Y ⟨#[]⟩,J I 0,J I 10,Y ⟨#[]⟩,J I 0] rfl 4 rfl (by omega) (eQ (by omega) (by decide)));go_wp2;go_meet;exact⟨_,_,_,_,rfl,by omega,A.up (by omega)⟩
  {go_wp2;go_meet;exact⟨L,g,c,_,rfl,by omega,C.up (by omega)⟩}
 case rest =>
 clear C;obtain⟨L,g,c,q5,rfl,hq5,C⟩:=hcut;go_upto_region 14 with fail;go_cut [59] (λsb j=>∃(u:Bool) (q:Nat),sb=ZD u/\q<=q5+1/\Hid (SC w R w.heap.size j q g c L 140));case first =>
  by_cases hz:z=7;{subst hz;go_wp2_with fail;refine(au R _ 3 _ C.st.rd (by omega) (by omega) (by omega)).mono ?_;rintro e b ⟨x,rfl,x0,x1,hR,h⟩;replace C:=ae (C.F h hR);clear h hR;go_wp2;go_meet;exact⟨_,_,rfl,by omega,C⟩};{go_wp2;go_meet;exact⟨_,_,rfl,by omega,C⟩}
 case rest =>
 clear C;obtain⟨u,ZI,rfl,hq5b,C⟩:=hcut;go_upto_if 59 with fail;go_cut [3] (λm j=>∃(L:List I3) (g c q:Nat),m=Z (T (Q g 0 U)) L.length c/\q<=ZI+1/\Hid (SC w R w.heap.size j q g c L 140));case first =>
  cases u with
  |false =>go_wp2;go_meet;exact⟨L,g,c,_,rfl,by omega,C⟩
  |true =>
   go_wp2_with fail;refine(au R _ 2 _ C.st.rd (by omega) (by omega) (by omega)).mono ?_;rintro e b ⟨y,rfl,S,ZJ,hR,h⟩;replace C:=ae (C.F h hR);clear h hR;go_wp2_with fail;obtain⟨m0,r⟩:∃m0:Nat,499+y=(m0:Int):=⟨(499+y).toNat,by omega⟩
   rw[r];refine(eP ⟨#[120]⟩ m0 _ (by show 1*m0<=4000;omega) (by omega)).mono ?_;rintro e Wm ⟨t,rfl,ZO,hw⟩;rw[hw];have ZK:t.size<=5000:=p7 ZO (by show 1*m0<=5000;omega);clear ZO r hw;iterate 6
    go_wp2_with fail;with_reducible first|refine(aW _ _).mono ?_|refine(bw _ _ _).mono ?_|refine(bm _ _).mono ?_
    rintro e b ⟨rfl,f⟩;replace C:=ae (C.aa f);clear f
   have A:=ae (SC.lit C.st [(1,t.data.toList,0),(7,[],0),(11,[],5),(4,[],1),(10,[],1),(9,[],0)] #[J I 1,Y t,J I 0,J I 7,Y ⟨#[]⟩,J I 0,J I 11,Y ⟨#[]⟩,J I 5,J I 4,Y ⟨#[]⟩,J I 1,J I 10,Y ⟨#[]⟩,J I 1,J I 9,Y ⟨#[]⟩,J I 0] rfl 6 rfl (by omega) (eQ ZK (by decide)));go_wp2;go_meet;exact⟨_,_,_,_,rfl,by omega,A.up (by omega)⟩
 case rest =>
 clear C;obtain⟨L,g,c,q6,rfl,hq6,C⟩:=hcut;go_upto_region 16 with fail;go_cut [77] (λsb j=>∃(u:Bool) (q:Nat),sb=ZD u/\q<=q6+1/\Hid (SC w R w.heap.size j q g c L 140));case first =>
  by_cases hz:z=6;{subst hz;go_wp2_with fail;refine(au R _ 3 _ C.st.rd (by omega) (by omega) (by omega)).mono ?_;rintro e b ⟨x,rfl,x0,x1,hR,h⟩;replace C:=ae (C.F h hR);clear h hR;go_wp2;go_meet;exact⟨_,_,rfl,by omega,C⟩};{go_wp2;go_meet;exact⟨_,_,rfl,by omega,C⟩}
 case rest =>
 clear C;obtain⟨u,aq,rfl,hq6b,C⟩:=hcut;go_upto_if 77 with fail;go_cut [3] (λm j=>∃(L:List I3) (g c q:Nat),m=Z (T (Q g 0 U)) L.length c/\q<=aq+1/\Hid (SC w R w.heap.size j q g c L 140));case first =>
  cases u with
  |false =>go_wp2;go_meet;exact⟨L,g,c,_,rfl,by omega,C⟩
  |true =>
   go_wp2_with fail;refine(au R _ 3 _ C.st.rd (by omega) (by omega) (by omega)).mono ?_;rintro e b ⟨y,rfl,S,ZJ,hR,h⟩;replace C:=ae (C.F h hR);clear h hR;go_wp2_with fail;obtain⟨m0,r⟩:∃m0:Nat,200+y - 1=(m0:Int):=⟨(200+y - 1).toNat,by omega⟩
   rw[r];refine(wX m0 _ (by omega)).mono ?_;rintro e W8 ⟨LW,gW,rfl,l,lq,D,f⟩;have C8:=ae (SC.di C.st l (n:=140) (by omega) D (Only.u f) (C.st.rd.aa f ly));clear l D f r;go_wp2;go_meet;exact⟨LW,gW,7,_,by rw[lq],by omega,C8⟩
 case rest =>
 clear C;obtain⟨L,g,c,q7,rfl,hq7,C⟩:=hcut;go_upto_if 84 with fail;go_cut [3] (λm j=>∃(L:List I3) (g c q:Nat),m=Z (T (Q g 0 U)) L.length c/\q<=q7/\Hid (SC w R w.heap.size j q g c L 140));case first =>
  by_cases hz:z=5
  ·subst hz;iterate 2
    go_wp2_with fail;with_reducible first|refine(aW _ _).mono ?_|refine(bw _ _ _).mono ?_|refine(bm _ _).mono ?_
    rintro e b ⟨rfl,f⟩;replace C:=ae (C.aa f);clear f
   have A:=ae (SC.lit C.st [(1,[115],0),(10,[],0)] #[J I 1,Y ⟨#[115]⟩,J I 0,J I 10,Y ⟨#[]⟩,J I 0] rfl 2 rfl (by omega) (by decide));go_wp2;go_meet;exact⟨_,_,_,_,rfl,by omega,A.up (by omega)⟩
  {go_wp2;go_meet;exact⟨L,g,c,_,rfl,by omega,C.up (by omega)⟩}
 case rest =>
 clear C;obtain⟨L,g,c,q8,rfl,hq8,C⟩:=hcut;have ln:=C.len;have ge:=C.ir.lt;go_wp2_with fail;refine(gi g 0 L.length c (dn L) _ (by omega) ge.2 (λi hi=>C.ir.at i (by omega)) (λi hi=>Hd C.2.2.2 i (by omega))).mono ?_;rintro e Wv ⟨rfl,f⟩;have ZP:=ae (C.aa f);clear f;cases hv:valid (dn L) L.length with
 |true =>
  have vp:=(bP hv).2.1;clear hv;have o:=ZP.st.2.2.1;have zl:=o.lt;have V:=o.c0;have P:=o.fz 0;have fin:=ae (ZP.fin (Z (T (Q g 0 U)) L.length c));clear o;go_wp2;obtain⟨f1,ZN,f3,G,ZQ,H⟩:=fin.out;try simp only[Exit.inBlock,Exit.then]
  refine bp (ko rfl _ _ w.heap.size _ rfl f1) rfl ?_;exact⟨L,g,c,rfl,ZN,by omega,by omega,G,q8,by omega,ZQ,H⟩
 |false =>
  clear hv;replace C:=ZP;iterate 2
   go_wp2_with fail;with_reducible first|refine(aW _ _).mono ?_|refine(bw _ _ _).mono ?_|refine(bm _ _).mono ?_
   rintro e b ⟨rfl,f⟩;replace C:=ae (C.aa f);clear f
  have W:=ae (SC.lit C.st [(1,[120],0),(15,[],0)] #[J I 1,Y ⟨#[120]⟩,J I 0,J I 15,Y ⟨#[]⟩,J I 0] rfl 2 rfl (by omega) (by decide));have o:=W.st.2.2.1;have zl:=o.lt;have V:=o.c0;have P:=o.fz 0;have fin:=ae (W.fin (Z (T (Q b.heap.size 0 U)) 2 2));clear o;go_wp2;obtain⟨f1,ZN,f3,G,ZQ,H⟩:=fin.out;try simp only[Exit.inBlock,Exit.then]
  refine bp (ko rfl _ _ w.heap.size _ rfl f1) rfl ?_;exact⟨[(1,[120],0),(15,[],0)],b.heap.size,2,rfl,ZN,by simp,by simp,G,q8,by omega,ZQ,H⟩
theorem uA:∀(L:List I3) (i:Nat) (y:I3) (j:Nat) (v:ZC),j<3->i<L.length->i3V y=(i3V (L.getD i (0,[],0))).set j v->i3L (L.set i y)=(i3L L).set (i*3+j) v
 |[],i,y,j,v,_,h,_=>by simp at h
 |x::L,0,y,j,v,hj,_,e=>by show i3V y++i3L L=(i3V x++i3L L).set (0*3+j) v;rw[VY _ _ (by show 0*3+j<3;omega),WH,FM];rw[show i3V y=(i3V x).set j v from e]
 |x::L,i+1,y,j,v,hj,h,e=>by have c:=uA L i y j v hj (by simpa using h) e;have b:(i3V x).length=3:=rfl;show i3V x++i3L (L.set i y)=(i3V x++i3L L).set ((i+1)*3+j) v;rw[c,SD _ _ (by rw[b];omega),b,show(i+1)*3+j - 3=i*3+j by omega]
theorem IR.set3 (h:IR w b g c L)(hi:i<L.length)(m:j<3)(y:I3)(v:ZC)(e:i3V y=(i3V (L.getD i (0,[],0))).set j v):IR (w.setCell (Q g (i*3+j) U) v) b g c (L.set i y):=by
 unfold IR;rw[KK,uA L i y j v m hi e];refine⟨by rw[KK];exact h.1,?_⟩;rcases h.2 with ⟨f,h0⟩|⟨g',cap,l,f,hb,n,h1,h2,h3,h4⟩
 {simp at f};{simp only[N1,OJ,TP] at f;obtain⟨⟨rfl,-⟩,-,rfl⟩:=f;refine .inr ⟨g,c,l.setIfInBounds (i*3+j) v,rfl,hb,?_,h1,h2,by simpa using h3,?_⟩;{simp[World.setCell,CP,n]};{rw[QR,VT,h4]}}
theorem IR.take (h:IR w b g c L)(k:Nat)(j:k<=L.length):IR w b g c (L.take k):=by
 have e:i3L (L.take k)=(i3L L).take (k*3):=by
  have h1:i3L L=i3L (L.take k)++i3L (L.drop k):=by rw[<-qW,PI]
  have h2:(i3L (L.take k)).length=k*3:=by rw[jG,OD,QW j]
  rw[h1,<-h2,List.take_left'];rfl
 have l:(L.take k).length=k:=by rw[OD,QW j]
 unfold IR;rw[e,l];refine⟨by rw[OD,h.1,QW (by omega)],?_⟩;rcases h.2 with ⟨f,h0⟩|⟨g',cap,i,f,hb,m,h1,h2,h3,h4⟩
 {simp at f};{simp only[N1,OJ,TP] at f;obtain⟨⟨rfl,-⟩,-,rfl⟩:=f;refine .inr ⟨g,c,i,rfl,hb,m,by omega,h2,h3,?_⟩;rw[<-h4,List.take_take,QW (by omega)]}
theorem IR.fz (h:IR w f g c L)(j:Nat):w.frozen? (Q g j U)=ZA:=by
 rcases h.2 with ⟨b,_⟩|⟨g',cap,cur,b,_,i,_⟩
 {simp at b};{simp only[N1,OJ,TP] at b;obtain⟨⟨rfl,-⟩,-,rfl⟩:=b;exact OP i _}
theorem SC.set3 (h:SC w R b W q g c L n)(hi:i<L.length)(m:j<3)(y:I3)(v:ZC)(e:i3V y=(i3V (L.getD i (0,[],0))).set j v)(f:y.2.1.length<=5000):SC w R b (W.setCell (Q g (i*3+j) U) v) q g c (L.set i y) n:=by
 have B:=(dB (b+1) W).setCell (p:=(Q g (i*3+j) U)) h.ir.lt.1 v;refine⟨h.1.low B,h.ir.set3 hi m y v e,by rw[KK];exact h.len,λx l=>?_⟩;rcases OV l with h1|h1;{exact h.2.2.2 x h1};{rw[h1];exact f}
theorem SC.take (h:SC w R b W q g c L n)(k:Nat)(f:k<=L.length):SC w R b W q g c (L.take k) n :=
 ⟨h.1,h.ir.take k f,by rw[OD];have:=h.len;omega,λi hi=>h.2.2.2 i (VZ hi)⟩
theorem SC.app0 (h:SC w R b W q g c L n)(l:IR W' (b+1) g' c' (L++ZQ))(j:W.grownBy W' (T g))(hn:L.length+ZQ.length<=n')(f:∀i∈ZQ,i.2.1.length<=5000):SC w R b W' q g' c' (L++ZQ) n':=by
 have hl:=h.1.lt;have m:=bg (dB (b+1) W) j (by omega) (λk e=>by have:=h.2.1.lt;simp at e;omega);refine⟨h.1.low m,l,by rw[cM];omega,λi hi=>?_⟩;rcases p8.1 hi with hi|hi;{exact h.2.2.2 i hi};{exact f i hi}
theorem SC.mono (h:SC w R b W q g c L n)(hn:L.length<=f):SC w R b W q g c L f:=⟨h.1,h.2.1,hn,h.2.2.2⟩
theorem SC.B (h:SC w R b W q g c L n)(i:Nat)(hi:i<L.length):(L.getD i (0,[],0)).2.1.length<=5000:=by
 have e:L.getD i (0,[],0)=L[i]:=by simp[hi]
 rw[e];exact h.2.2.2 _ (gz hi)
theorem sB (h:Rd w R q)(v:ZC):SC w R (w.heap.size+1) (((w.alloc (N #[v] 43)).alloc (N #[Z U 0 0] 43)).alloc (N #[] 151)) q (w.heap.size+2) 0 [] 0:=by
 have f:=(q9 w).alloc ly (N #[v] 43);have b:=f.alloc f.size (N #[Z U 0 0] 43);have c:=b.alloc b.size (N #[] 151);have hz:((w.alloc (N #[v] 43)).alloc (N #[Z U 0 0] 43)).heap.size=w.heap.size+2:=by simp
 have ZP:=IR.lit ((w.alloc (N #[v] 43)).alloc (N #[Z U 0 0] 43));rw[hz] at ZP;refine⟨⟨h.aa c ly,Only.u c,?_,h.lt,by omega⟩,ZP,n6 _,λi hi=>by cases hi⟩;show _=_;rw[QI _ _ (by simp)];exact US w _ _
