import Derived.Test.YthkpcehepgmdgaaGreatDoorSC
import Derived.Deep.DeepCutAuto
set_option maxRecDepth 100000
set_option maxHeartbeats 8000000
set_option linter.unusedSimpArgs false
open Go renaming Addr.mk->Q,Value.slice->Z,Value.string->U,Value.int->J,Value.bool->ZC,Obj.cells->N,IntKind.i64->I,World->G,Value->ZD,Ending.returned->ZG,World.setCell->ZT,Proofs.Tryz.prog->Pg
open Option renaming none->Y,some->T
open Bool renaming false->ZB
open List renaming length->A
namespace Go.Proofs.YthkpcehepgmdgaaGreatDoor.Vp
open Tryz RowKit
variable {w W W':G}{R q b g n f q' m g' c' n' i j:Nat}{L M:List I3}
theorem eI{t:ByteArray}{n:Int}(b:t.size<=5000)(hM:∀i∈M,i.2.1.length<=5000):∀i∈(1,t.data.toList,n)::M,i.2.1.length<=5000:=by
 intro i hi;rcases BS.1 hi with rfl|hi;{show (A t.data.toList)<=5000;rw[NM];exact b};{exact hM i hi}
structure VS (w:G)(R:Nat)(W:G)(q g c:Nat)(L:List I3)(n:Nat):Prop where
 rd:Rd W R q
 o:Only R w W
 ir:IR W w.heap.size g c L
 tx:∀i∈L,i.2.1.length<=5000
 lo:R<w.heap.size
 le:A L<=n
section
variable {w W W':G}{R q q' g c g' c' n:Nat}{L M:List I3}
theorem VS.ac (h:VS w R W q g c L n)(b:Only R W W')(hR:Rd W' R q'):VS w R W' q' g c L n:=⟨hR,h.o.trans b,h.ir.ac b h.lo,h.tx,h.lo,h.le⟩
theorem VS.aa (h:VS w R W q g c L n)(b:Below W.heap.size W W'):VS w R W' q g c L n:=h.ac (Only.q b) (h.rd.aa b ly)
theorem VS.low (h:VS w R W q g c L n)(b:Below w.heap.size W W')(f:IR W' w.heap.size g' c' M)(hM:∀i∈M,i.2.1.length<=5000):VS w R W' q g' c' M (A M):=⟨h.rd.low b h.lo,h.o.then b,f,hM,h.lo,j6 _⟩
theorem VS.join (h:VS w R W q g c L n)(f:IR W' w.heap.size g' c' (L++M))(b:W.grownBy W' (T g))(hM:∀i∈M,i.2.1.length<=5000):VS w R W' q g' c' (L++M) (L++M).length :=
 h.low (bg (cM w.heap.size W) b h.o.size (λk e=>by have:=h.ir.lt;simp at e;omega)) f λi hi=>by
  rcases n6.1 hi with hi|hi
  ·exact h.tx i hi
  ·exact hM i hi
theorem VS.add (cs:Array ZD)(h:VS w R W q g c L n)(f:IR W' w.heap.size g' c' (L++M))(b:(W.alloc (N cs 90)).grownBy W' (T g))(hM:∀i∈M,i.2.1.length<=5000):VS w R W' q g' c' (L++M) (L++M).length :=
 (h.aa (br.alloc ly _)).join f b hM
theorem VS.fin{ZN ZO:Nat}(h:VS w R W q g c L n)(f:m=A L)(b:L≠[])(hn:A L<=ZO)(i:q<=ZN):DI w R ZN ZO (ZG (Z (T (Q g 0 Y)) m c)) W :=
 ⟨L,g,c,by rw[f],h.ir,b,hn,h.tx,q,i,h.rd,h.o⟩
end
section
variable {ops:Array Oper}{rest:List Oper}{o:Oper}{a:Act}{ZN:Exit->Act->G->Prop}{w W W':G}{R q g c n:Nat}{L M:List I3}
theorem pk (z:o.guard=Y)(s x:Operand)(B:o.op=.call { callee:=.builtin .append,args:=#[s,x],argTypes:=#[39,39] })(C:VS w R W q g c L n)(ZU:Below W.heap.size W W')(t:Addr)(m d:Nat)(H:a.eval s=Z (T (Q g 0 Y)) (A L) c)(ZS:a.eval x=Z (T t) m d)(p:m=A M)(y:M≠[])(l:∀j u,(i3L M)[j]?=T u->W'.cell? (t.add j)=T u)(hM:∀i∈M,i.2.1.length<=5000)(hlen:A L+m<=100000)
  (h:∀g' c' b f,Hid (VS w R f q g' c' b (A b))->A b<=A L+m->A L+m<=A b->wpList Pg ops ZN rest (a.put o.dst (Z (T (Q g' 0 Y)) (A b) c')) f):wpList Pg ops ZN (o::rest) a W':=by
 have r:=C.aa ZU;refine gC z s x B w.heap.size g c L H r.ir t m d M ZS p y l (by omega) r.o.size ?_;intro g' c' f D E;exact h g' c' (L++M) f (r.join D E hM) (by rw[gB,p];exact j6 _) (by rw[gB,p];exact j6 _)
theorem gN (r:o.guard=Y)(s x:Operand)(y:o.op=.call { callee:=.builtin .append,args:=#[s,x],argTypes:=#[39,39] })(C:VS w R W q g c L n)(M:List I3)(m:Nat){j:Array ZD}(ZU:a.eval s=Z (T (Q g 0 Y)) (A L) c)(z:a.eval x=Z (T (Q W.heap.size 0 Y)) m m)(l:j.toList=i3L M)(u:m=A M)(p:M≠[])(hM:∀i∈M,i.2.1.length<=5000)(f:A L+m<=100000)
  (h:∀g' c' b t,Hid (VS w R t q g' c' b (A b))->A b<=A L+m->A L+m<=A b->wpList Pg ops ZN rest (a.put o.dst (Z (T (Q g' 0 Y)) (A b) c')) t):wpList Pg ops ZN (o::rest) a (W.alloc (N j 90)) :=
 pk r s x y C (br.alloc ly _) _ m m ZU z u p (l ▸ eG W j _) hM f h
end
theorem qY (s:Int)(ZO nc B S:Nat)(hd3:s<=11)(hd0:0<=s)(hb:ZO<=44)(hB4:4<=B)(hC14:14<=S)(fd:0<s->3*ZO+2<=B/\3*nc+14<=S/\4<=ZO)(ZK:0<s->∀(R p:Nat) (at_:Int) (w:G),Rd w R p->p+nc<=30000->0<=at_->at_+(ZO:Int)<=10000->Calls Pg 89 #[.pointer (T (Q R 0 Y)),J I at_,J I (s - 1)] w λe w'=>DI w R (p+nc) ZO e w')
  (R p:Nat) (at_:Int) (w:G) (hR:Rd w R p) (hp:p+S<=30000) (ha0:0<=at_) (ha1:at_+(B:Int)<=10000) :
  Calls Pg 89 #[.pointer (T (Q R 0 Y)),J I at_,J I s] w λe w'=>DI w R (p+S) B e w':=by
 have ZM:=ae ZK;have A0:=(q9 w).alloc ly (N #[] 90);have C:Hid (VS w R (w.alloc (N #[] 90)) p w.heap.size 0 [] 0):=⟨hR.aa A0 ly,Only.q A0,IR.lit w,λi hi=>(by cases hi),hR.lt,j6 _⟩
 clear A0 hR ZK;go_enter func89,ntmps89;go_wp2_with fail;generalize World.alloc w _=W0 at C ⊢;refine(ar R _ 12 _ C.rd (by omega) (by omega) (by omega)).mono ?_;rintro e l ⟨z,rfl,z0,z1,hR,b⟩;replace C:=ae (C.ac b hR);clear b hR;go_upto_region 3 with fail;go_cut [19] (λsb wx=>∃P:Bool,sb=ZC P/\(P=true->6<z)/\(P=ZB->6<z->0<s)/\Hid (VS w R wx (p+1) w.heap.size 0 [] 0));case first =>
  by_cases h2:s<=0;{by_cases h3:6<z;{go_wp2;go_meet;exact⟨true,rfl,λ_=>h3,(λh=>by cases h),C.out⟩};{go_wp2;go_meet;exact⟨ZB,rfl,(λh=>by cases h),λ_ h=>absurd h (by omega),C⟩}};{go_wp2;go_meet;exact⟨ZB,rfl,(λh=>by cases h),λ_ _=>by omega,C.out⟩}
 case rest =>
 clear C;obtain⟨P,rfl,ZJ,X,C⟩:=hcut;go_upto_if 19 with fail;go_cut [7,8] (λso sk wx=>∃(g c q:Nat) (L:List I3) (k:Int),so=Z (T (Q g 0 Y)) (A L) c/\sk=J I k/\0<=k/\k<12/\(6<k->0<s)/\q<=p+1/\Hid (VS w R wx q g c L 0));case first =>
  cases P with
  |true =>
   have h2:=ZJ rfl;have ZS:IntKind.i64.wrap (z - 6)=z - 6:=by rw[nL];omega
   go_wp2;go_meet;exact⟨_,_,_,[],_,rfl,rfl,by omega,by omega,λh=>by omega,j6 _,C⟩
  |false =>have bt:=ae (X rfl);go_wp2;go_meet;exact⟨_,_,_,[],_,rfl,rfl,by omega,by omega,bt,j6 _,C⟩
 case rest =>
 clear C;obtain⟨g,c,q,L,k,rfl,rfl,hk0,hk1,ex,hq,C⟩:=hcut;have hL0:=C.le;rcases(show(k=0∨k=1)∨(k=2∨k=3∨k=4∨k=6)∨k=5∨(k=7∨k=8∨k=9∨k=10)∨k=11 by omega) with H|H|rfl|H|rfl
 ·rcases H with rfl|rfl;all_goals
   go_wp2_with fail;refine(gL R _ _ C.rd (by omega)).mono ?_;rintro e l ⟨t,rfl,ht,q2,aq,hR,b⟩;replace C:=ae (C.ac b hR);clear b hR;go_wp2_with fail;with_reducible first|refine(aT _ _).mono ?_|refine(bM _ _ _).mono ?_|refine(bi _ _).mono ?_
   rintro e l ⟨rfl,j⟩;replace C:=ae (C.aa j);clear j;go_wp2_with (at_builtin;refine gN rfl _ _ rfl C [(1,t.data.toList,0)] 1 (by simp[Act.eval]) (by simp[Act.eval]) rfl rfl (by simp) (eI (by omega) (by decide)) (by omega) ?_);intro W c1 r ZL C V u1;go_wp2;go_ret;exact C.fin rfl (LE.1 (by omega)) (by omega) (by omega)
 ·rcases H with rfl|rfl|rfl|rfl;all_goals
   go_wp2_with fail;refine(dL R _ _ C.rd (by omega)).mono ?_;rintro e l ⟨t,rfl,ht,hR,b⟩;replace C:=ae (C.ac b hR);clear b hR
   iterate 2
    go_wp2_with fail;with_reducible first|refine(aT _ _).mono ?_|refine(bM _ _ _).mono ?_|refine(bi _ _).mono ?_
    rintro e l ⟨rfl,j⟩;replace C:=ae (C.aa j);clear j
   go_wp2_with (at_builtin;first|(refine gN rfl _ _ rfl C [(1,t.data.toList,0),(12,[],0)] 2 (by simp[Act.eval]) (by simp[Act.eval]) rfl rfl (by simp) (eI (by omega) (by decide)) (by omega) ?_)|(refine gN rfl _ _ rfl C [(1,t.data.toList,0),(13,[],0)] 2 (by simp[Act.eval]) (by simp[Act.eval]) rfl rfl (by simp) (eI (by omega) (by decide)) (by omega) ?_));intro W c1 r ZL C V u1;go_wp2;go_ret;exact C.fin rfl (LE.1 (by omega)) (by omega) (by omega)
 ·skip;go_wp2_with fail;refine(dL R _ _ C.rd (by omega)).mono ?_;rintro e l ⟨t,rfl,ht,hR,b⟩;replace C:=ae (C.ac b hR);clear b hR;iterate 2
   go_wp2_with fail;with_reducible first|refine(aT _ _).mono ?_|refine(bM _ _ _).mono ?_|refine(bi _ _).mono ?_
   rintro e l ⟨rfl,j⟩;replace C:=ae (C.aa j);clear j
  go_wp2_with fail;refine(ar R _ 3 _ C.rd (by omega) (by omega) (by omega)).mono ?_;rintro e l ⟨y,rfl,y0,y1,hR,b⟩;replace C:=ae (C.ac b hR);clear b hR;iterate 2
   go_wp2_with fail;with_reducible first|refine(aT _ _).mono ?_|refine(bM _ _ _).mono ?_|refine(bi _ _).mono ?_
   rintro e l ⟨rfl,j⟩;replace C:=ae (C.aa j);clear j
  go_wp2_with (at_builtin;refine gN rfl _ _ rfl C [(1,t.data.toList,0),(12,[],0),(5,[],y),(12,[],0)] 4 (by simp[Act.eval]) (by simp[Act.eval]) rfl rfl (by simp) (eI (by omega) (by intro i hi;simp only[BS,nj,NE] at hi;rcases hi with rfl|rfl|rfl<;>exact DN _)) (by omega) ?_);intro W c1 r ZL C V u1;go_wp2;go_ret;exact C.fin rfl (LE.1 (by omega)) (by omega) (by omega)
 ·have ZU:=ex (by omega);obtain⟨ZJ,X,bt⟩:=fd ZU;rcases H with rfl|rfl|rfl|rfl;all_goals
   go_wp2_with fail;refine(ZM ZU R _ at_ _ C.rd (by omega) (by omega) (by omega)).mono ?_;rintro e l ⟨M,D,E,rfl,hM,f,O,m,q1,hq1,hR,b⟩;replace C:=ae (C.ac b hR);have ZP:=ae hM.bf;have o:=ae m;have n:=ae f;have K:=LE.2 f;clear b hR hM m f;go_wp2_with (at_builtin;refine pk rfl _ _ rfl C br (Q D 0 Y) (A M) E (by simp[Act.eval]) (by simp[Act.eval]) rfl n ZP o (by omega) ?_);intro W c1 r ZL C V u1;clear ZP o n
  ·skip;go_wp2_with fail;refine(ZM ZU R _ (at_+(A r:Int)) _ C.rd (by omega) (by omega) (by omega)).mono ?_;rintro e l ⟨M,D,E,rfl,hM,f,O,m,q2,aq,hR,b⟩;replace C:=ae (C.ac b hR);have ZP:=ae hM.bf;have o:=ae m;have n:=ae f;have K:=LE.2 f;clear b hR hM m f;go_wp2_with (at_builtin;refine pk rfl _ _ rfl C br (Q D 0 Y) (A M) E (by simp[Act.eval]) (by simp[Act.eval]) rfl n ZP o (by omega) ?_);intro g2 c2 L2 W2 C l2 u2;clear ZP o n;go_wp2_with fail;refine(ar R _ 2 _ C.rd (by omega) (by omega) (by omega)).mono ?_;rintro e l ⟨y,rfl,y0,y1,hR,b⟩;replace C:=ae (C.ac b hR);clear b hR;go_wp2_with fail;with_reducible first|refine(aT _ _).mono ?_|refine(bM _ _ _).mono ?_|refine(bi _ _).mono ?_
   rintro e l ⟨rfl,j⟩;replace C:=ae (C.aa j);clear j;go_wp2_with (at_builtin;refine gN rfl _ _ rfl C [((2+4*y),[],0)] 1 (by simp[Act.eval]) (by simp[Act.eval]) rfl rfl (by simp) (λi hi=>by rw[j4.1 hi];exact DN _) (by omega) ?_);intro g3 c3 ZN W3 C l3 u3;go_wp2;go_ret;exact C.fin rfl (LE.1 (by omega)) (by omega) (by omega)
  ·skip;go_wp2_with fail;refine(ar R _ 3 _ C.rd (by omega) (by omega) (by omega)).mono ?_;rintro e l ⟨x,rfl,x0,x1,hR,b⟩;replace C:=ae (C.ac b hR);clear b hR;go_wp2_with fail;refine(ar R _ 4 _ C.rd (by omega) (by omega) (by omega)).mono ?_;rintro e l ⟨y,rfl,y0,y1,hR,b⟩;replace C:=ae (C.ac b hR);clear b hR;go_wp2_with fail;with_reducible first|refine(aT _ _).mono ?_|refine(bM _ _ _).mono ?_|refine(bi _ _).mono ?_
   rintro e l ⟨rfl,j⟩;replace C:=ae (C.aa j);clear j;go_wp2_with (at_builtin;refine gN rfl _ _ rfl C [((3+x),[],y)] 1 (by simp[Act.eval]) (by simp[Act.eval]) rfl rfl (by simp) (λi hi=>by rw[j4.1 hi];exact DN _) (by omega) ?_);intro g2 c2 L2 W2 C l2 u2;go_wp2;go_ret;exact C.fin rfl (LE.1 (by omega)) (by omega) (by omega)
  all_goals
   go_wp2_with fail;with_reducible first|refine(aT _ _).mono ?_|refine(bM _ _ _).mono ?_|refine(bi _ _).mono ?_
   rintro e l ⟨rfl,j⟩;replace C:=ae (C.aa j);clear j;go_wp2_with (at_builtin;refine gN rfl _ _ rfl C [(11,[],0)] 1 (by simp[Act.eval]) (by simp[Act.eval]) rfl rfl (by simp) (λi hi=>by rw[j4.1 hi];exact DN _) (by omega) ?_);intro g2 c2 L2 W2 C l2 u2;go_wp2_with fail;refine(ZM ZU R _ (at_+(A L2:Int)) _ C.rd (by omega) (by omega) (by omega)).mono ?_;rintro e l ⟨M,D,E,rfl,hM,f,O,m,q3,hq3,hR,b⟩;replace C:=ae (C.ac b hR);have ZP:=ae hM.bf;have o:=ae m;have n:=ae f;have K:=LE.2 f;clear b hR hM m f;go_wp2_with (at_builtin;refine pk rfl _ _ rfl C br (Q D 0 Y) (A M) E (by simp[Act.eval]) (by simp[Act.eval]) rfl n ZP o (by omega) ?_);intro g3 c3 ZN W3 C l3 u3;clear ZP o n;go_wp2_with fail;with_reducible first|refine(aT _ _).mono ?_|refine(bM _ _ _).mono ?_|refine(bi _ _).mono ?_
   rintro e l ⟨rfl,j⟩;replace C:=ae (C.aa j);clear j;go_wp2_with (at_builtin;refine gN rfl _ _ rfl C [(10,[],0)] 1 (by simp[Act.eval]) (by simp[Act.eval]) rfl rfl (by simp) (λi hi=>by rw[j4.1 hi];exact DN _) (by omega) ?_);intro g4 c4 L4 W4 C l4 u4;obtain⟨⟨n0,cn⟩,fz⟩:=C.ir.cellN (i:=A r) (by omega);have il:(A r:Int)<(A L4:Int):=by omega
   have gl:=C.ir.lt.2;go_wp2_with fail;refine(nM _ _).mono ?_;rintro e l ⟨rfl,ZS⟩;rw[ZS];clear ZS;generalize (if 200<at_+(A L4:Int) then 200 else at_+(A L4:Int))=sv;obtain⟨L5,hlk,u,ZQ⟩:=C.ir.setN (i:=A r) (by omega) sv;replace C:=ae (C.low ((cM w.heap.size W4).setCell (p:=(Q g4 (A r*3+2) Y)) C.ir.lt.1 (J I sv)) ZQ (u C.tx));go_upto_region 33 with fail;generalize World.setCell W4 _ _=W5 at C ⊢;rw[<-hlk];have b5:=Nat.le_of_eq hlk;have d5:=Nat.le_of_eq hlk.symm;clear hlk u ZQ cn fz gl il;go_wp2_with fail;refine(ZM ZU R _ (at_+(A L5:Int)) _ C.rd (by omega) (by omega) (by omega)).mono ?_;rintro e l ⟨M,D,E,rfl,hM,f,O,m,q6,hq6,hR,b⟩;replace C:=ae (C.ac b hR);have ZP:=ae hM.bf;have o:=ae m;have n:=ae f;have K:=LE.2 f;clear b hR hM m f;go_wp2_with (at_builtin;refine pk rfl _ _ rfl C br (Q D 0 Y) (A M) E (by simp[Act.eval]) (by simp[Act.eval]) rfl n ZP o (by omega) ?_);intro g6 c6 L6 W6 C l6 u6;clear ZP o n;obtain⟨⟨n0,cn⟩,fz⟩:=C.ir.cellN (i:=A ZN) (by omega);have il:(A ZN:Int)<(A L6:Int):=by omega
   have gl:=C.ir.lt.2;go_wp2_with fail;refine(nM _ _).mono ?_;rintro e l ⟨rfl,ZS⟩;rw[ZS];clear ZS;generalize (if 200<at_+(A L6:Int) then 200 else at_+(A L6:Int))=sv;obtain⟨L7,hlk,u,ZQ⟩:=C.ir.setN (i:=A ZN) (by omega) sv;replace C:=ae (C.low ((cM w.heap.size W6).setCell (p:=(Q g6 (A ZN*3+2) Y)) C.ir.lt.1 (J I sv)) ZQ (u C.tx));go_upto_region 35 with fail;generalize World.setCell W6 _ _=W7 at C ⊢;rw[<-hlk];have b7:=Nat.le_of_eq hlk;have d7:=Nat.le_of_eq hlk.symm;clear hlk u ZQ cn fz gl il;go_wp2;go_ret;exact C.fin rfl (LE.1 (by omega)) (by omega) (by omega)
 ·skip;go_wp2_with fail;refine(gL R _ _ C.rd (by omega)).mono ?_;rintro e l ⟨t,rfl,ht,q2,aq,hR,b⟩;replace C:=ae (C.ac b hR);clear b hR;iterate 4
   go_wp2_with fail;with_reducible first|refine(aT _ _).mono ?_|refine(bM _ _ _).mono ?_|refine(bi _ _).mono ?_
   rintro e l ⟨rfl,j⟩;replace C:=ae (C.aa j);clear j
  go_wp2_with (at_builtin;refine gN rfl _ _ rfl C [(1,t.data.toList,0),(7,[],0),(8,[],0),(9,[],0)] 4 (by simp[Act.eval]) (by simp[Act.eval]) rfl rfl (by simp) (eI (by omega) (by decide)) (by omega) ?_);intro W c1 r ZL C V u1;go_wp2;go_ret;exact C.fin rfl (LE.1 (by omega)) (by omega) (by omega)
theorem zB (R p:Nat)(at_:Int)(w:G)(hR:Rd w R p)(b:p+14<=30000)(g:0<=at_)(h1:at_+4<=10000):Calls Pg 89 #[.pointer (T (Q R 0 Y)),J I at_,J I 0] w λe f=>DI w R (p+14) 4 e f :=
 qY 0 4 14 4 14 (by omega) (by omega) (by omega) (by omega) (by omega) (λh=>absurd h (by omega)) (λh=>absurd h (by omega)) R p at_ w hR b g h1
theorem mj (d b f:Nat)(hd3:(d:Int)<=10)(hb:b<=44)(h:4<=b)(m:∀(R p:Nat) (at_:Int) (w:G),Rd w R p->p+f<=30000->0<=at_->at_+(b:Int)<=10000->Calls Pg 89 #[.pointer (T (Q R 0 Y)),J I at_,J I d] w λe g=>DI w R (p+f) b e g)
  (R p:Nat) (at_:Int) (w:G) (hR:Rd w R p) (l:p+(3*f+14)<=30000) (j:0<=at_) (i:at_+((3*b+2:Nat):Int)<=10000) :
  Calls Pg 89 #[.pointer (T (Q R 0 Y)),J I at_,J I ((d:Int)+1)] w λe g=>DI w R (p+(3*f+14)) (3*b+2) e g :=
 qY ((d:Int)+1) b f (3*b+2) (3*f+14) (by omega) (by omega) hb (by omega) (by omega) (λ_=>⟨j6 _,j6 _,h⟩) (λ_=>by rw[Int.add_sub_cancel];exact m) R p at_ w hR l j i
def VD (b f:Nat)(d:Int):Prop:=∀(R p:Nat) (at_:Int) (w:G),Rd w R p->p+b<=30000->0<=at_->at_+(f:Int)<=10000->Calls Pg 89 #[.pointer (T (Q R 0 Y)),J I at_,J I d] w λe g=>DI w R (p+b) f e g
theorem vd0:VD 14 4 ((0:Nat):Int):=λR p at_ w hR b f h1=>zB R p at_ w hR b f (by omega)
theorem vd1:VD 56 14 ((1:Nat):Int):=λR p at_ w hR hp b h1=>mj 0 4 14 (by omega) (by omega) (by omega) vd0 R p at_ w hR (by omega) b (by omega)
theorem vd2:VD 182 44 ((2:Nat):Int):=λR p at_ w hR hp b h1=>mj 1 14 56 (by omega) (by omega) (by omega) vd1 R p at_ w hR (by omega) b (by omega)
theorem vd3:VD 560 134 ((3:Nat):Int):=λR p at_ w hR hp b h1=>mj 2 44 182 (by omega) (by omega) (by omega) vd2 R p at_ w hR (by omega) b (by omega)
theorem DI.mono{b:G}{e:Ending}(h:DI w R q n e b)(r:q<=q')(hn:n<=f):DI w R q' f e b:=by obtain⟨L,g,c,h1,h2,j,m,l,p,i,o⟩:=h;exact⟨L,g,c,h1,h2,j,AD m hn,l,p,AD i r,o⟩
theorem vh (R p:Nat)(z:Int)(hz:z=0∨z=1)(w:G)(hR:Rd w R p)(hp:p<=29000):Calls Pg 89 #[.pointer (T (Q R 0 Y)),J I 0,J I (2+z)] w λe b=>DI w R (p+560) 134 e b:=by
 rcases hz with rfl|rfl;{exact(vd2 R p 0 w hR (by omega) (by omega) (by omega)).mono λe b h=>h.mono (by omega) (by omega)};{exact vd3 R p 0 w hR (by omega) (by omega) (by omega)}
def ST (w:G)(R b:Nat)(W:G)(q:Nat):Prop:=Rd W R q/\Only R w W/\PB W b (Z Y 0 0)/\R<w.heap.size/\w.heap.size<=b
def SC (w:G)(R b:Nat)(W:G)(q g c:Nat)(L:List I3)(n:Nat):Prop:=ST w R b W q/\IR W (b+1) g c L/\(A L)<=n/\∀i∈L,i.2.1.length<=5000
theorem ST.rd (h:ST w R b W q):Rd W R q:=h.1
theorem ST.lt (h:ST w R b W q):b<W.heap.size:=h.2.2.1.lt
theorem ST.low (h:ST w R b W q)(hb:Below (b+1) W W'):ST w R b W' q:=by obtain⟨h1,h2,g,f,i⟩:=h;exact⟨h1.low hb (by omega),h2.then (hb.mono (by omega)),g.aa hb (by omega),f,i⟩
theorem ST.aa (h:ST w R b W q)(hb:Below W.heap.size W W'):ST w R b W' q:=h.low (hb.mono h.lt)
theorem PB.ac{f:G}{v:ZD}(h:PB w b v)(g:Only R w f)(hR:b≠R):PB f b v:=(g.block b h.lt hR).trans h
theorem ST.ac (h:ST w R f W q)(b:Only R W W')(hR:Rd W' R q'):ST w R f W' q':=by obtain⟨h1,h2,i,g,j⟩:=h;exact⟨hR,h2.trans b,i.ac b (by omega),g,j⟩
theorem ST.new (h:Rd w R q):ST w R w.heap.size (w.alloc (N #[Z Y 0 0] 41)) q:=by have b:=(q9 w).alloc ly (N #[Z Y 0 0] 41);exact⟨h.aa b ly,Only.q b,nD w _,h.lt,j6 _⟩
theorem SC.st{c:Nat}(h:SC w R b W q g c L n):ST w R b W q:=h.1
theorem SC.ir{c:Nat}(h:SC w R b W q g c L n):IR W (b+1) g c L:=h.2.1
theorem SC.len{c:Nat}(h:SC w R b W q g c L n):A L<=n:=h.2.2.1
theorem SC.up{c:Nat}(h:SC w R b W q g c L n)(f:n<=m):SC w R b W q g c L m:=⟨h.1,h.2.1,AD h.2.2.1 f,h.2.2.2⟩
theorem SC.aa{c:Nat}(h:SC w R b W q g c L n)(hb:Below W.heap.size W W'):SC w R b W' q g c L n :=
 ⟨h.1.aa hb,h.2.1.aa hb ly,h.2.2⟩
theorem SC.ac{c:Nat}(h:SC w R f W q g c L n)(b:Only R W W')(hR:Rd W' R q'):SC w R f W' q' g c L n :=
 ⟨h.1.ac b hR,h.2.1.ac b (by have:=h.1.2.2.2;omega),h.2.2⟩
theorem SC.di{c:Nat}(h:ST w R b W q)(j:IR W' W.heap.size g c L)(hn:A L<=n)(l:∀i∈L,i.2.1.length<=5000)(f:Only R W W')(hR:Rd W' R q'):SC w R b W' q' g c L n :=
 ⟨h.ac f hR,aA j h.lt,hn,l⟩
theorem SC.app{c:Nat}(f:Array ZD)(h:SC w R b W q g c L n)(j:IR W' (b+1) g' c' (L++M))(o:(W.alloc (N f 90)).grownBy W' (T g))(hn:n+A M<=n')(m:∀i∈M,i.2.1.length<=5000):SC w R b W' q g' c' (L++M) n':=by
 have l:=h.1.lt;have p:=bg ((cM (b+1) W).alloc l (N f 90)) o (by simp;omega) (λk e=>by have:=h.2.1.lt;simp at e;omega);refine⟨h.1.low p,j,by rw[gB];have:=h.len;omega,λi hi=>?_⟩;rcases n6.1 hi with hi|hi;{exact h.2.2.2 i hi};{exact m i hi}
theorem IR.new (W:G)(b:Nat)(hb:b<=W.heap.size)(L:List I3)(f:Array ZD)(g:f.toList=i3L L)(n:Nat)(hn:n=A L)(hm:n<=100000):IR (W.alloc (N f 90)) b W.heap.size n L:=by
 subst hn;have hz:f.size=A L*3:=by rw[<-jc,<-g,NM]
 refine⟨jc L,.inr ⟨W.heap.size,A L,f,rfl,hb,nD W _,j6 _,by unfold maxLen;omega,hz,?_⟩⟩;rw[g,MW (by rw[jc];omega)]
theorem SC.lit (h:ST w R b W q)(L:List I3)(f:Array ZD)(g:f.toList=i3L L)(n:Nat)(hn:n=A L)(j:n<=100000)(l:∀i∈L,i.2.1.length<=5000):SC w R b (W.alloc (N f 90)) q W.heap.size n L n :=
 ⟨h.aa (br.alloc ly _),IR.new W (b+1) h.lt L f g n hn j,by omega,l⟩
theorem SC.fin{c:Nat}(h:SC w R b W q g c L n)(v:ZD):PB (ZT W (Q b 0 Y) v) b v/\IR (ZT W (Q b 0 Y) v) w.heap.size g c L/\(A L)<=n/\(∀i∈L,i.2.1.length<=5000)/\Rd (ZT W (Q b 0 Y) v) R q/\Only R w (ZT W (Q b 0 Y) v):=by obtain⟨⟨h1,h2,j,m,l⟩,f,r,o⟩:=h;have B:=(cM w.heap.size W).setCell (p:=(Q b 0 Y)) l v;exact⟨j.set v,aA (Bf f (by omega) v) (by omega),r,o,h1.low B m,h2.then B⟩
def DP (w:G)(R q lo n:Nat)(e:Ending)(w':G):Prop:=∃(L:List I3) (g c:Nat),e=ZG (.agg #[Z (T (Q g 0 Y)) (A L) c])/\IR w' w.heap.size g c L/\lo<=A L/\(A L)<=n/\(∀i∈L,i.2.1.length<=5000)/\∃q':Nat,q'<=q/\Rd w' R q'/\Only R w w'
theorem jD{fn:Func}{p:Tmp}(h:fn.results=#[.cell p 41])(tmps:Array ZD)(w:G)(g:Nat)(v:ZD)(f:tmps.getD p undef=.pointer (T (Q g 0 Y)))(b:PB w g v):(results fn tmps).run Pg w=.ok (.agg #[v]) w :=
 results_cell_row h tmps w g 41 #[v] (0,0) _ f b underlying41 rfl vg
def de (L:List I3)(i:Nat):Ins:=⟨(L.getD i (0,[],0)).1,⟨(L.getD i (0,[],0)).2.1.toArray⟩,(L.getD i (0,[],0)).2.2⟩
theorem zC:∀(L:List I3) (i:Nat),i<A L->(i3L L)[i*3]?=T (J I (de L i).op)/\(i3L L)[i*3+1]?=T (U (de L i).s)/\(i3L L)[i*3+2]?=T (J I (de L i).n)
 |[],i,h=>by simp at h
 |x::L,0,_=>⟨rfl,rfl,rfl⟩
 |x::L,i+1,h=>by
  have g:=zC L i (by simpa using h);have b:(i3V x).length=3:=rfl;have e:∀k,(i3L (x::L))[(i+1)*3+k]?=(i3L L)[i*3+k]?:=λk=>by show(i3V x++i3L L)[(i+1)*3+k]?=_;rw[KL (by rw[b];omega),b,show(i+1)*3+k - 3=i*3+k by omega]
  have f:=e 0;rw[NO,NO] at f;rw[f,e 1,e 2];exact g
theorem IR.at{c:Nat}(h:IR w b g c L):∀i,i<A L->AtIns w g 0 i (de L i):=by intro i hi;obtain⟨f,h1,h2⟩:=zC L i hi;have c0:=h.bf _ _ f;have c1:=h.bf _ _ h1;have c2:=h.bf _ _ h2;rw[gA] at c0 c1 c2;exact⟨c0,c1,c2⟩
theorem Ev (b:∀i∈L,i.2.1.length<=5000):∀i,i<A L->(de L i).s.size<=maxLen:=by
 intro i hi;have h:=b L[i] (gz hi);have e:L.getD i (0,[],0)=L[i]:=by simp[hi]
 show(L.getD i (0,[],0)).2.1.toArray.size<=maxLen;rw[e,MX];unfold maxLen;omega
theorem vi (n:Nat)(w:G)(hn:(n:Int)<=300):Calls Pg 91 #[J I n] w λe q=>∃(L:List I3) (g:Nat),e=ZG (Z (T (Q g 0 Y)) 7 7)/\IR q w.heap.size g 7 L/\(A L)=7/\(∀i∈L,i.2.1.length<=5000)/\Below w.heap.size w q:=by
 go_enter func91,ntmps91;go_wp2_with fail;refine(eZ ⟨#[97,32]⟩ n _ (by show 2*n<=4000;omega) (by omega)).mono ?_;rintro e Wx ⟨t,rfl,s,o⟩;rw[o];have x:t.size<=5000:=AD s (by show 2*n<=5000;omega);clear s o;go_wp2_with fail;refine(bi t _).mono ?_;rintro e W1 ⟨rfl,b⟩;have j:=ae (b);clear b;go_wp2_with fail;refine(aT 7 _).mono ?_;rintro e W2 ⟨rfl,b⟩;have h:=ae (j.trans (b.mono j.size));clear b;go_wp2_with fail;refine(bM 5 0 _).mono ?_;rintro e W3 ⟨rfl,b⟩;have r:=ae (h.trans (b.mono h.size));clear b;go_wp2_with fail;refine(aT 13 _).mono ?_;rintro e W4 ⟨rfl,b⟩;have p:=ae (r.trans (b.mono r.size));clear b;go_wp2_with fail;refine(aT 9 _).mono ?_;rintro e W5 ⟨rfl,b⟩;have m:=ae (p.trans (b.mono p.size));clear b;go_wp2_with fail;refine(bM 4 2 _).mono ?_;rintro e W6 ⟨rfl,b⟩;have l:=ae (m.trans (b.mono m.size));clear b;go_wp2_with fail;refine(bM 10 1 _).mono ?_;rintro e u ⟨rfl,b⟩;have f:=ae (l.trans (b.mono l.size));clear b;go_wp2;go_ret;refine⟨[(1,t.data.toList,0),(7,[],0),(5,[],0),(13,[],0),(9,[],0),(4,[],2),(10,[],1)],_,rfl,IR.new u _ f.size _ _ rfl _ rfl (by omega),rfl,?_,f.alloc f.size _⟩;intro i hi;simp only[BS,nj,NE] at hi;rcases hi with rfl|rfl|rfl|rfl|rfl|rfl|rfl;{show (A t.data.toList)<=5000;rw[NM];exact x};all_goals exact DN _
theorem iR (R p:Nat)(w:G)(hR:Rd w R p)(hp:p<=20000):Calls Pg 60 #[.pointer (T (Q R 0 Y))] w λe w'=>DP w R (p+600) 1 140 e w':=by
 have D:=ae (ST.new hR);clear hR;go_enter func60,ntmps60;go_wp2_with fail;generalize World.alloc w _=W0 at D ⊢;refine(ar R _ 2 _ D.rd (by omega) (by omega) (by omega)).mono ?_;rintro e W1 ⟨d,rfl,ZN,S,hR,h⟩;have ZS:=ae (D.ac h hR);clear h hR D;go_wp2_with fail;refine(vh R _ d (by omega) _ ZS.rd (by omega)).mono ?_;rintro e W2 ⟨L,g,c,rfl,l,aq,hn,ZU,q2,hq2,hR,h⟩;have C:Hid (SC w R w.heap.size W2 q2 g c L 134):=SC.di ZS l hn ZU h hR;clear h hR l ZU aq hn ZS;go_wp2_with fail;refine(ar R _ 24 _ C.st.rd (by omega) (by omega) (by omega)).mono ?_;rintro e b ⟨z,rfl,z0,z1,hR,h⟩;replace C:=ae (C.ac h hR);clear h hR;go_upto_if 13 with fail;go_cut [3] (λm j=>∃(L:List I3) (g c q:Nat),m=Z (T (Q g 0 Y)) (A L) c/\q<=q2+2/\Hid (SC w R w.heap.size j q g c L 135));case first =>
  rcases(show z=0∨z=1∨z=2∨3<=z by omega) with rfl|rfl|rfl|h3
  ·iterate 1
    go_wp2_with fail;with_reducible first|refine(aT _ _).mono ?_|refine(bM _ _ _).mono ?_|refine(bi _ _).mono ?_
    rintro e b ⟨rfl,f⟩;replace C:=ae (C.aa f);clear f
   have X:=ae (C.aa ((q9 b).alloc ly (N #[J I 14,U ⟨#[]⟩,J I 0] 90)));have ln:=C.len;go_wp2_with (at_builtin;refine gC rfl (.tmp 14) (.tmp 16) rfl (w.heap.size+1) g c L (by simp[Act.eval]) X.ir (Q b.heap.size 0 Y) 1 1 [(14,[],0)] (by simp[Act.eval]) rfl (by simp) (eG b #[J I 14,U ⟨#[]⟩,J I 0] _) (by simp only[p6,J1];omega) (by have:=C.st.lt;simp;omega) ?_;intro B c1 M l o);go_meet;exact⟨_,B,c1,_,by simp,by omega,(C.app (n':=135) _ l o (by show 134+1<=135;omega) (λi hi=>by rw[j4.1 hi];exact DN _))⟩
  ·iterate 1
    go_wp2_with fail;with_reducible first|refine(aT _ _).mono ?_|refine(bM _ _ _).mono ?_|refine(bi _ _).mono ?_
    rintro e b ⟨rfl,f⟩;replace C:=ae (C.aa f);clear f
   have X:=ae (C.aa ((q9 b).alloc ly (N #[J I 10,U ⟨#[]⟩,J I 0] 90)));have ln:=C.len;go_wp2_with (at_builtin;refine gC rfl (.tmp 20) (.tmp 22) rfl (w.heap.size+1) g c L (by simp[Act.eval]) X.ir (Q b.heap.size 0 Y) 1 1 [(10,[],0)] (by simp[Act.eval]) rfl (by simp) (eG b #[J I 10,U ⟨#[]⟩,J I 0] _) (by simp only[p6,J1];omega) (by have:=C.st.lt;simp;omega) ?_;intro B c1 M l o);go_meet;exact⟨_,B,c1,_,by simp,by omega,(C.app (n':=135) _ l o (by show 134+1<=135;omega) (λi hi=>by rw[j4.1 hi];exact DN _))⟩
  ·go_wp2_with fail;refine(ar R _ 15 _ C.st.rd (by omega) (by omega) (by omega)).mono ?_;rintro e b ⟨y,rfl,W,ZJ,hR,h⟩;replace C:=ae (C.ac h hR);clear h hR;iterate 1
    go_wp2_with fail;with_reducible first|refine(aT _ _).mono ?_|refine(bM _ _ _).mono ?_|refine(bi _ _).mono ?_
    rintro e b ⟨rfl,f⟩;replace C:=ae (C.aa f);clear f
   have X:=ae (C.aa ((q9 b).alloc ly (N #[J I (1+y),U ⟨#[]⟩,J I 0] 90)));have ln:=C.len;go_wp2_with (at_builtin;refine gC rfl (.tmp 26) (.tmp 31) rfl (w.heap.size+1) g c L (by simp[Act.eval]) X.ir (Q b.heap.size 0 Y) 1 1 [((1+y),[],0)] (by simp[Act.eval]) rfl (by simp) (eG b #[J I (1+y),U ⟨#[]⟩,J I 0] _) (by simp only[p6,J1];omega) (by have:=C.st.lt;simp;omega) ?_;intro B c1 M l o);go_meet;exact⟨_,B,c1,_,by simp,by omega,(C.app (n':=135) _ l o (by show 134+1<=135;omega) (λi hi=>by rw[j4.1 hi];exact DN _))⟩
  ·have n0:(z == 0)=ZB:=by simp;omega
   have n1:(z == 1)=ZB:=by simp;omega
   have n2:(z == 2)=ZB:=by simp;omega
   go_wp2;go_meet;exact⟨L,g,c,_,rfl,by omega,C.up (by omega)⟩
 case rest =>
 clear C;obtain⟨ZQ,g0,c0,q3,rfl,hq3,C⟩:=hcut;iterate 1
  go_wp2_with fail;with_reducible first|refine(aT _ _).mono ?_|refine(bM _ _ _).mono ?_|refine(bi _ _).mono ?_
  rintro e b ⟨rfl,f⟩;replace C:=ae (C.aa f);clear f
 have X:=ae (C.aa ((q9 b).alloc ly (N #[J I 15,U ⟨#[]⟩,J I 0] 90)));have ln:=C.len;go_upto_if 38 with (at_builtin;refine gC rfl (.tmp 33) (.tmp 35) rfl (w.heap.size+1) g0 c0 ZQ (by simp[Act.eval]) X.ir (Q b.heap.size 0 Y) 1 1 [(15,[],0)] (by simp[Act.eval]) rfl (by simp) (eG b #[J I 15,U ⟨#[]⟩,J I 0] _) (by simp only[p6,J1];omega) (by have:=C.st.lt;simp;omega) ?_;intro g c M l o);replace C:=ae (C.app (n':=136) _ l o (by show 135+1<=136;omega) (λi hi=>by rw[j4.1 hi];exact DN _));clear l o X ln;generalize hL:ZQ++[(15,[],0)]=L at C;have hn1:A ZQ+1=A L:=by rw[<-hL,gB];rfl
 rw[hn1];clear hL hn1;go_cut [3] (λm j=>∃(L:List I3) (g c q:Nat),m=Z (T (Q g 0 Y)) (A L) c/\q<=q3/\Hid (SC w R w.heap.size j q g c L 140));case first =>
  by_cases hz:z=3
  ·subst hz;iterate 4
    go_wp2_with fail;with_reducible first|refine(aT _ _).mono ?_|refine(bM _ _ _).mono ?_|refine(bi _ _).mono ?_
    rintro e b ⟨rfl,f⟩;replace C:=ae (C.aa f);clear f
   have s:=ae (SC.lit C.st [(1,[97,98,99,100,101,102,103,104],0),(7,[],0),(2,[],0),(10,[],1)] #[J I 1,U ⟨#[97,98,99,100,101,102,103,104]⟩,J I 0,J I 7,U ⟨#[]⟩,J I 0,J I 2,U ⟨#[]⟩,J I 0,J I 10,U ⟨#[]⟩,J I 1] rfl 4 rfl (by omega) (by decide));go_wp2;go_meet;exact⟨_,_,_,_,rfl,by omega,s.up (by omega)⟩
  {go_wp2;go_meet;exact⟨L,g,c,_,rfl,by omega,C.up (by omega)⟩}
 case rest =>
 clear C;obtain⟨L,g,c,q4,rfl,hq4,C⟩:=hcut;go_upto_if 45 with fail;go_cut [3] (λm j=>∃(L:List I3) (g c q:Nat),m=Z (T (Q g 0 Y)) (A L) c/\q<=q4+1/\Hid (SC w R w.heap.size j q g c L 140));case first =>
  by_cases hz:z=4
  ·subst hz;go_wp2_with fail;refine(dL R _ _ C.st.rd (by omega)).mono ?_;rintro e b ⟨t,rfl,K,hR,h⟩;replace C:=ae (C.ac h hR);clear h hR;iterate 4
    go_wp2_with fail;with_reducible first|refine(aT _ _).mono ?_|refine(bM _ _ _).mono ?_|refine(bi _ _).mono ?_
    rintro e b ⟨rfl,f⟩;replace C:=ae (C.aa f);clear f
   have s:=ae (SC.lit C.st [(1,t.data.toList,0),(13,[],0),(9,[],0),(10,[],0)] #[J I 1,U t,J I 0,J I 13,U ⟨#[]⟩,J I 0,J I 9,U ⟨#[]⟩,J I 0,J I 10,U ⟨#[]⟩,J I 0] rfl 4 rfl (by omega) (eI (by omega) (by decide)));go_wp2;go_meet;exact⟨_,_,_,_,rfl,by omega,s.up (by omega)⟩
  {go_wp2;go_meet;exact⟨L,g,c,_,rfl,by omega,C.up (by omega)⟩}
 case rest =>
 clear C;obtain⟨L,g,c,q5,rfl,hq5,C⟩:=hcut;go_upto_region 14 with fail;go_cut [59] (λsb j=>∃(u:Bool) (q:Nat),sb=ZC u/\q<=q5+1/\Hid (SC w R w.heap.size j q g c L 140));case first =>
  by_cases hz:z=7;{subst hz;go_wp2_with fail;refine(ar R _ 3 _ C.st.rd (by omega) (by omega) (by omega)).mono ?_;rintro e b ⟨x,rfl,x0,x1,hR,h⟩;replace C:=ae (C.ac h hR);clear h hR;go_wp2;go_meet;exact⟨_,_,rfl,by omega,C⟩};{go_wp2;go_meet;exact⟨_,_,rfl,by omega,C⟩}
 case rest =>
 clear C;obtain⟨u,bt,rfl,hq5b,C⟩:=hcut;go_upto_if 59 with fail;go_cut [3] (λm j=>∃(L:List I3) (g c q:Nat),m=Z (T (Q g 0 Y)) (A L) c/\q<=bt+1/\Hid (SC w R w.heap.size j q g c L 140));case first =>
  cases u with
  |false =>go_wp2;go_meet;exact⟨L,g,c,_,rfl,by omega,C⟩
  |true =>
   go_wp2_with fail;refine(ar R _ 2 _ C.st.rd (by omega) (by omega) (by omega)).mono ?_;rintro e b ⟨y,rfl,W,ZJ,hR,h⟩;replace C:=ae (C.ac h hR);clear h hR;go_wp2_with fail;obtain⟨m0,r⟩:∃m0:Nat,499+y=(m0:Int):=⟨(499+y).toNat,by omega⟩
   rw[r];refine(eZ ⟨#[120]⟩ m0 _ (by show 1*m0<=4000;omega) (by omega)).mono ?_;rintro e Wm ⟨t,rfl,K,P⟩;rw[P];have V:t.size<=5000:=AD K (by show 1*m0<=5000;omega);clear K r P;iterate 6
    go_wp2_with fail;with_reducible first|refine(aT _ _).mono ?_|refine(bM _ _ _).mono ?_|refine(bi _ _).mono ?_
    rintro e b ⟨rfl,f⟩;replace C:=ae (C.aa f);clear f
   have s:=ae (SC.lit C.st [(1,t.data.toList,0),(7,[],0),(11,[],5),(4,[],1),(10,[],1),(9,[],0)] #[J I 1,U t,J I 0,J I 7,U ⟨#[]⟩,J I 0,J I 11,U ⟨#[]⟩,J I 5,J I 4,U ⟨#[]⟩,J I 1,J I 10,U ⟨#[]⟩,J I 1,J I 9,U ⟨#[]⟩,J I 0] rfl 6 rfl (by omega) (eI V (by decide)));go_wp2;go_meet;exact⟨_,_,_,_,rfl,by omega,s.up (by omega)⟩
 case rest =>
 clear C;obtain⟨L,g,c,q6,rfl,hq6,C⟩:=hcut;go_upto_region 16 with fail;go_cut [77] (λsb j=>∃(u:Bool) (q:Nat),sb=ZC u/\q<=q6+1/\Hid (SC w R w.heap.size j q g c L 140));case first =>
  by_cases hz:z=6;{subst hz;go_wp2_with fail;refine(ar R _ 3 _ C.st.rd (by omega) (by omega) (by omega)).mono ?_;rintro e b ⟨x,rfl,x0,x1,hR,h⟩;replace C:=ae (C.ac h hR);clear h hR;go_wp2;go_meet;exact⟨_,_,rfl,by omega,C⟩};{go_wp2;go_meet;exact⟨_,_,rfl,by omega,C⟩}
 case rest =>
 clear C;obtain⟨u,ZK,rfl,hq6b,C⟩:=hcut;go_upto_if 77 with fail;go_cut [3] (λm j=>∃(L:List I3) (g c q:Nat),m=Z (T (Q g 0 Y)) (A L) c/\q<=ZK+1/\Hid (SC w R w.heap.size j q g c L 140));case first =>
  cases u with
  |false =>go_wp2;go_meet;exact⟨L,g,c,_,rfl,by omega,C⟩
  |true =>
   go_wp2_with fail;refine(ar R _ 3 _ C.st.rd (by omega) (by omega) (by omega)).mono ?_;rintro e b ⟨y,rfl,W,ZJ,hR,h⟩;replace C:=ae (C.ac h hR);clear h hR;go_wp2_with fail;obtain⟨m0,r⟩:∃m0:Nat,200+y - 1=(m0:Int):=⟨(200+y - 1).toNat,by omega⟩
   rw[r];refine(vi m0 _ (by omega)).mono ?_;rintro e W8 ⟨LW,gW,rfl,l,lq,ZU,f⟩;have C8:=ae (SC.di C.st l (n:=140) (by omega) ZU (Only.q f) (C.st.rd.aa f ly));clear l ZU f r;go_wp2;go_meet;exact⟨LW,gW,7,_,by rw[lq],by omega,C8⟩
 case rest =>
 clear C;obtain⟨L,g,c,q7,rfl,hq7,C⟩:=hcut;go_upto_if 84 with fail;go_cut [3] (λm j=>∃(L:List I3) (g c q:Nat),m=Z (T (Q g 0 Y)) (A L) c/\q<=q7/\Hid (SC w R w.heap.size j q g c L 140));case first =>
  by_cases hz:z=5
  ·subst hz;iterate 2
    go_wp2_with fail;with_reducible first|refine(aT _ _).mono ?_|refine(bM _ _ _).mono ?_|refine(bi _ _).mono ?_
    rintro e b ⟨rfl,f⟩;replace C:=ae (C.aa f);clear f
   have s:=ae (SC.lit C.st [(1,[115],0),(10,[],0)] #[J I 1,U ⟨#[115]⟩,J I 0,J I 10,U ⟨#[]⟩,J I 0] rfl 2 rfl (by omega) (by decide));go_wp2;go_meet;exact⟨_,_,_,_,rfl,by omega,s.up (by omega)⟩
  {go_wp2;go_meet;exact⟨L,g,c,_,rfl,by omega,C.up (by omega)⟩}
 case rest =>
 clear C;obtain⟨L,g,c,ZL,rfl,hq8,C⟩:=hcut;have ln:=C.len;have ge:=C.ir.lt;go_wp2_with fail;refine(fO g 0 (A L) c (de L) _ (by omega) ge.2 (λi hi=>C.ir.at i (by omega)) (λi hi=>Ev C.2.2.2 i (by omega))).mono ?_;rintro e Wv ⟨rfl,f⟩;have E:=ae (C.aa f);clear f;cases hv:valid (de L) (A L) with
 |true =>
  have vp:=(bO hv).2.1;clear hv;have pb:=E.st.2.2.1;have zl:=pb.lt;have ZN:=pb.c0;have S:=pb.fz 0;have fin:=ae (E.fin (Z (T (Q g 0 Y)) (A L) c));clear pb;go_wp2;obtain⟨f1,ZP,f3,ZO,O,H⟩:=fin.out;try simp only[Exit.inBlock,Exit.then]
  refine bp (jD rfl _ _ w.heap.size _ rfl f1) rfl ?_;exact⟨L,g,c,rfl,ZP,by omega,by omega,ZO,ZL,by omega,O,H⟩
 |false =>
  clear hv;replace C:=E;iterate 2
   go_wp2_with fail;with_reducible first|refine(aT _ _).mono ?_|refine(bM _ _ _).mono ?_|refine(bi _ _).mono ?_
   rintro e b ⟨rfl,f⟩;replace C:=ae (C.aa f);clear f
  have ZM:=ae (SC.lit C.st [(1,[120],0),(15,[],0)] #[J I 1,U ⟨#[120]⟩,J I 0,J I 15,U ⟨#[]⟩,J I 0] rfl 2 rfl (by omega) (by decide));have pb:=ZM.st.2.2.1;have zl:=pb.lt;have ZN:=pb.c0;have S:=pb.fz 0;have fin:=ae (ZM.fin (Z (T (Q b.heap.size 0 Y)) 2 2));clear pb;go_wp2;obtain⟨f1,ZP,f3,ZO,O,H⟩:=fin.out;try simp only[Exit.inBlock,Exit.then]
  refine bp (jD rfl _ _ w.heap.size _ rfl f1) rfl ?_;exact⟨[(1,[120],0),(15,[],0)],b.heap.size,2,rfl,ZP,by simp,by simp,ZO,ZL,by omega,O,H⟩
theorem tu:∀(L:List I3) (i:Nat) (y:I3) (j:Nat) (v:ZD),j<3->i<A L->i3V y=(i3V (L.getD i (0,[],0))).set j v->i3L (L.set i y)=(i3L L).set (i*3+j) v
 |[],i,y,j,v,_,h,_=>by simp at h
 |x::L,0,y,j,v,hj,_,e=>by show i3V y++i3L L=(i3V x++i3L L).set (0*3+j) v;rw[TN _ _ (by show 0*3+j<3;omega),T8,E4];rw[show i3V y=(i3V x).set j v from e]
 |x::L,i+1,y,j,v,hj,h,e=>by have f:=tu L i y j v hj (by simpa using h) e;have b:(i3V x).length=3:=rfl;show i3V x++i3L (L.set i y)=(i3V x++i3L L).set ((i+1)*3+j) v;rw[f,P6 _ _ (by rw[b];omega),b,show(i+1)*3+j - 3=i*3+j by omega]
theorem IR.set3{c:Nat}(h:IR w b g c L)(hi:i<A L)(o:j<3)(y:I3)(v:ZD)(e:i3V y=(i3V (L.getD i (0,[],0))).set j v):IR (ZT w (Q g (i*3+j) Y) v) b g c (L.set i y):=by
 unfold IR;rw[KP,tu L i y j v o hi e];refine⟨by rw[KP];exact h.1,?_⟩;rcases h.2 with ⟨f,h0⟩|⟨g',cap,l,f,hb,n,h1,h2,m,p⟩
 {simp at f};{simp only[KU,KN,OR] at f;obtain⟨⟨rfl,-⟩,-,rfl⟩:=f;refine .inr ⟨g,c,l.setIfInBounds (i*3+j) v,rfl,hb,?_,h1,h2,by simpa using m,?_⟩;{simp[World.setCell,KZ,n]};{rw[MU,SY,p]}}
theorem IR.take{c:Nat}(h:IR w b g c L)(k:Nat)(i:k<=A L):IR w b g c (L.take k):=by
 have e:i3L (L.take k)=(i3L L).take (k*3):=by
  have h1:i3L L=i3L (L.take k)++i3L (L.drop k):=by rw[<-qk,NF]
  have h2:(i3L (L.take k)).length=k*3:=by rw[jc,LU,ND i]
  rw[h1,<-h2,List.take_left'];rfl
 have m:(L.take k).length=k:=by rw[LU,ND i]
 unfold IR;rw[e,m];refine⟨by rw[LU,h.1,ND (by omega)],?_⟩;rcases h.2 with ⟨f,h0⟩|⟨g',cap,j,f,hb,n,h1,h2,l,o⟩
 {simp at f};{simp only[KU,KN,OR] at f;obtain⟨⟨rfl,-⟩,-,rfl⟩:=f;refine .inr ⟨g,c,j,rfl,hb,n,by omega,h2,l,?_⟩;rw[<-o,List.take_take,ND (by omega)]}
theorem IR.fz{c:Nat}(h:IR w f g c L)(j:Nat):w.frozen? (Q g j Y)=ZB:=by
 rcases h.2 with ⟨b,_⟩|⟨g',cap,cur,b,_,i,_⟩
 {simp at b};{simp only[KU,KN,OR] at b;obtain⟨⟨rfl,-⟩,-,rfl⟩:=b;exact UH i _}
theorem SC.set3{c:Nat}(h:SC w R b W q g c L n)(hi:i<A L)(m:j<3)(y:I3)(v:ZD)(e:i3V y=(i3V (L.getD i (0,[],0))).set j v)(f:y.2.1.length<=5000):SC w R b (ZT W (Q g (i*3+j) Y) v) q g c (L.set i y) n:=by
 have B:=(cM (b+1) W).setCell (p:=(Q g (i*3+j) Y)) h.ir.lt.1 v;refine⟨h.1.low B,h.ir.set3 hi m y v e,by rw[KP];exact h.len,λx l=>?_⟩;rcases LN l with h1|h1;{exact h.2.2.2 x h1};{rw[h1];exact f}
theorem SC.take{c:Nat}(h:SC w R b W q g c L n)(k:Nat)(f:k<=A L):SC w R b W q g c (L.take k) n :=
 ⟨h.1,h.ir.take k f,by rw[LU];have:=h.len;omega,λi hi=>h.2.2.2 i (NI hi)⟩
theorem SC.app0{c:Nat}(h:SC w R b W q g c L n)(f:IR W' (b+1) g' c' (L++M))(l:W.grownBy W' (T g))(hn:A L+A M<=n')(j:∀i∈M,i.2.1.length<=5000):SC w R b W' q g' c' (L++M) n':=by
 have hl:=h.1.lt;have m:=bg (cM (b+1) W) l (by omega) (λk e=>by have:=h.2.1.lt;simp at e;omega);refine⟨h.1.low m,f,by rw[gB];omega,λi hi=>?_⟩;rcases n6.1 hi with hi|hi;{exact h.2.2.2 i hi};{exact j i hi}
theorem SC.mono{c:Nat}(h:SC w R b W q g c L n)(hn:A L<=f):SC w R b W q g c L f:=⟨h.1,h.2.1,hn,h.2.2.2⟩
theorem SC.B{c:Nat}(h:SC w R b W q g c L n)(i:Nat)(hi:i<A L):(L.getD i (0,[],0)).2.1.length<=5000:=by
 have e:L.getD i (0,[],0)=L[i]:=by simp[hi]
 rw[e];exact h.2.2.2 _ (gz hi)
theorem qZ (h:Rd w R q)(v:ZD):SC w R (w.heap.size+1) (((w.alloc (N #[v] 41)).alloc (N #[Z Y 0 0] 41)).alloc (N #[] 90)) q (w.heap.size+2) 0 [] 0:=by
 have g:=(q9 w).alloc ly (N #[v] 41);have b:=g.alloc g.size (N #[Z Y 0 0] 41);have f:=b.alloc b.size (N #[] 90);have hz:((w.alloc (N #[v] 41)).alloc (N #[Z Y 0 0] 41)).heap.size=w.heap.size+2:=by simp
 have ZQ:=IR.lit ((w.alloc (N #[v] 41)).alloc (N #[Z Y 0 0] 41));rw[hz] at ZQ;refine⟨⟨h.aa f ly,Only.q f,?_,h.lt,by omega⟩,ZQ,j6 _,λi hi=>by cases hi⟩;show _=_;rw[UI _ _ (by simp)];exact PQ w _ _
