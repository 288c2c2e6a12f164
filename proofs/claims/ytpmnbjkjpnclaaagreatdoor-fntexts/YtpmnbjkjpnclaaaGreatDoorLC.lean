import Derived.Test.YtpmnbjkjpnclaaaGreatDoorLB
import Derived.Deep.DeepCutAuto
set_option maxRecDepth 100000
set_option maxHeartbeats 8000000
set_option linter.unusedSimpArgs false
open Go renaming Addr.mk->N,Value.slice->Y,Value.string->U,Value.int->Q,Value.bool->ZC,Obj.cells->J,IntKind.i64->I,World->M,Value->ZB,Ending.returned->ZD,World.heap->B,Proofs.Tryz.prog->Pg
open Option renaming none->Z,some->T
open Bool renaming false->ZA
open Array renaming size->A
namespace Go.Proofs.YtpmnbjkjpnclaaaGreatDoor.Vp
open Tryz RowKit
variable {w W W' f:M}{b R q g n q' m g' c' n' i j:Nat}{L ZQ:List I3}
theorem eo{t:ByteArray}{n:Int}(b:t.size<=5000)(hM:∀i∈ZQ,i.2.1.length<=5000):∀i∈(1,t.data.toList,n)::ZQ,i.2.1.length<=5000:=by
 intro i hi;rcases BO.1 hi with rfl|hi;{show t.data.toList.length<=5000;rw[ME];exact b};{exact hM i hi}
structure VS (w:M)(R:Nat)(W:M)(q g c:Nat)(L:List I3)(n:Nat):Prop where
 rd:Rd W R q
 o:Only R w W
 ir:IR W (A (B w)) g c L
 tx:∀i∈L,i.2.1.length<=5000
 lo:R<A (B w)
 le:L.length<=n
section
variable {w W W':M}{R q q' g c g' c' n:Nat}{L ZQ:List I3}
theorem VS.ac (h:VS w R W q g c L n)(b:Only R W W')(hR:Rd W' R q'):VS w R W' q' g c L n:=⟨hR,h.o.trans b,h.ir.ac b h.lo,h.tx,h.lo,h.le⟩
theorem VS.aa (h:VS w R W q g c L n)(b:Below (A (B W)) W W'):VS w R W' q g c L n:=h.ac (Only.q b) (h.rd.aa b ly)
theorem VS.low (h:VS w R W q g c L n)(b:Below (A (B w)) W W')(f:IR W' (A (B w)) g' c' ZQ)(hM:∀i∈ZQ,i.2.1.length<=5000):VS w R W' q g' c' ZQ ZQ.length:=⟨h.rd.low b h.lo,h.o.then b,f,hM,h.lo,nX _⟩
theorem VS.join (h:VS w R W q g c L n)(b:IR W' (A (B w)) g' c' (L++ZQ))(f:W.grownBy W' (T g))(hM:∀i∈ZQ,i.2.1.length<=5000):VS w R W' q g' c' (L++ZQ) (L++ZQ).length :=
 h.low (bg (cM (A (B w)) W) f h.o.size (λk e=>by have:=h.ir.lt;simp at e;omega)) b λi hi=>by
  rcases BC.1 hi with hi|hi
  ·exact h.tx i hi
  ·exact hM i hi
theorem VS.fin{ZN ZM:Nat}(h:VS w R W q g c L n)(f:m=L.length)(b:L≠[])(hn:L.length<=ZM)(i:q<=ZN):DI w R ZN ZM (ZD (Y (T (N g 0 Z)) m c)) W :=
 ⟨L,g,c,by rw[f],h.ir,b,hn,h.tx,q,i,h.rd,h.o⟩
end
section
variable {ops:Array Oper}{rest:List Oper}{o:Oper}{a:Act}{ZN:Exit->Act->M->Prop}{w W W':M}{R q g c n:Nat}{L ZQ:List I3}
theorem nY (y:o.guard=Z)(s x:Operand)(G:o.op=.call { callee:=.builtin .append,args:=#[s,x],argTypes:=#[41,41] })(C:VS w R W q g c L n)(E:Below (A (B W)) W W')(t:Addr)(m d:Nat)(D:a.eval s=Y (T (N g 0 Z)) L.length c)(H:a.eval x=Y (T t) m d)(r:m=ZQ.length)(z:ZQ≠[])(f:∀j u,(i3L ZQ)[j]?=T u->W'.cell? (t.add j)=T u)(hM:∀i∈ZQ,i.2.1.length<=5000)(hlen:L.length+m<=100000)
  (h:∀g' c' b l,Hid (VS w R l q g' c' b b.length)->b.length<=L.length+m->L.length+m<=b.length->wpList Pg ops ZN rest (a.put o.dst (Y (T (N g' 0 Z)) b.length c')) l):wpList Pg ops ZN (o::rest) a W':=by
 have p:=C.aa E;refine gi y s x G (A (B w)) g c L D p.ir t m d ZQ H r z f (by omega) p.o.size ?_;intro g' c' l ZR ZS;exact h g' c' (L++ZQ) l (p.join ZR ZS hM) (by rw[eL,r];exact nX _) (by rw[eL,r];exact nX _)
theorem fP (p:o.guard=Z)(s x:Operand)(z:o.op=.call { callee:=.builtin .append,args:=#[s,x],argTypes:=#[41,41] })(C:VS w R W q g c L n)(ZQ:List I3)(m:Nat){j:Array ZB}(y:a.eval s=Y (T (N g 0 Z)) L.length c)(ZR:a.eval x=Y (T (N (A (B W)) 0 Z)) m m)(l:j.toList=i3L ZQ)(u:m=ZQ.length)(r:ZQ≠[])(hM:∀i∈ZQ,i.2.1.length<=5000)(f:L.length+m<=100000)
  (h:∀g' c' b t,Hid (VS w R t q g' c' b b.length)->b.length<=L.length+m->L.length+m<=b.length->wpList Pg ops ZN rest (a.put o.dst (Y (T (N g' 0 Z)) b.length c')) t):wpList Pg ops ZN (o::rest) a (W.alloc (J j 151)) :=
 nY p s x z C (br.alloc ly _) _ m m y ZR u r (l ▸ ed W j _) hM f h
end
theorem pT (r:Int)(ZM nc ZS ZL:Nat)(hd3:r<=11)(hd0:0<=r)(hb:ZM<=44)(hB4:4<=ZS)(hC14:14<=ZL)(ex:0<r->3*ZM+2<=ZS/\3*nc+14<=ZL/\4<=ZM)(X:0<r->∀(R p:Nat) (at_:Int) (w:M),Rd w R p->p+nc<=30000->0<=at_->at_+(ZM:Int)<=10000->Calls Pg 175 #[.pointer (T (N R 0 Z)),Q I at_,Q I (r - 1)] w λe w'=>DI w R (p+nc) ZM e w')
  (R p:Nat) (at_:Int) (w:M) (hR:Rd w R p) (hp:p+ZL<=30000) (ha0:0<=at_) (ha1:at_+(ZS:Int)<=10000) :
  Calls Pg 175 #[.pointer (T (N R 0 Z)),Q I at_,Q I r] w λe w'=>DI w R (p+ZL) ZS e w':=by
 have ZK:=ae X;have A0:=(BS w).alloc ly (J #[] 151);have C:Hid (VS w R (w.alloc (J #[] 151)) p (A (B w)) 0 [] 0):=⟨hR.aa A0 ly,Only.q A0,IR.lit w,λi hi=>(by cases hi),hR.lt,nX _⟩
 clear A0 hR X;go_enter func175,ntmps175;go_wp2_with fail;generalize World.alloc w _=W0 at C ⊢;refine(aw R _ 12 _ C.rd (by omega) (by omega) (by omega)).mono ?_;rintro e l ⟨z,rfl,z0,z1,hR,b⟩;replace C:=ae (C.ac b hR);clear b hR;go_upto_region 3 with fail;go_cut [19] (λsb wx=>∃O:Bool,sb=ZC O/\(O=true->6<z)/\(O=ZA->6<z->0<r)/\Hid (VS w R wx (p+1) (A (B w)) 0 [] 0));case first =>
  by_cases h2:r<=0;{by_cases h3:6<z;{go_wp2;go_meet;exact⟨true,rfl,λ_=>h3,(λh=>by cases h),C.out⟩};{go_wp2;go_meet;exact⟨ZA,rfl,(λh=>by cases h),λ_ h=>absurd h (by omega),C⟩}};{go_wp2;go_meet;exact⟨ZA,rfl,(λh=>by cases h),λ_ _=>by omega,C.out⟩}
 case rest =>
 clear C;obtain⟨O,rfl,ZJ,ZI,C⟩:=hcut;go_upto_if 19 with fail;go_cut [7,8] (λso sk wx=>∃(g c q:Nat) (L:List I3) (k:Int),so=Y (T (N g 0 Z)) L.length c/\sk=Q I k/\0<=k/\k<12/\(6<k->0<r)/\q<=p+1/\Hid (VS w R wx q g c L 0));case first =>
  cases O with
  |true =>
   have h2:=ZJ rfl;have G:IntKind.i64.wrap (z - 6)=z - 6:=by rw[AI];omega
   go_wp2;go_meet;exact⟨_,_,_,[],_,rfl,rfl,by omega,by omega,λh=>by omega,nX _,C⟩
  |false =>have aq:=ae (ZI rfl);go_wp2;go_meet;exact⟨_,_,_,[],_,rfl,rfl,by omega,by omega,aq,nX _,C⟩
 case rest =>
 clear C;obtain⟨g,c,q,L,k,rfl,rfl,hk0,hk1,fd,hq,C⟩:=hcut;have hL0:=C.le;rcases(show(k=0∨k=1)∨(k=2∨k=3∨k=4∨k=6)∨k=5∨(k=7∨k=8∨k=9∨k=10)∨k=11 by omega) with ZP|ZP|rfl|ZP|rfl
 ·rcases ZP with rfl|rfl;all_goals
   go_wp2_with fail;refine(fO R _ _ C.rd (by omega)).mono ?_;rintro e l ⟨t,rfl,ht,q2,bt,hR,b⟩;replace C:=ae (C.ac b hR);clear b hR;go_wp2_with fail;with_reducible first|refine(ba _ _).mono ?_|refine(bB _ _ _).mono ?_|refine(bj _ _).mono ?_
   rintro e l ⟨rfl,j⟩;replace C:=ae (C.aa j);clear j;go_wp2_with (at_builtin;refine fP rfl _ _ rfl C [(1,t.data.toList,0)] 1 (by simp[Act.eval]) (by simp[Act.eval]) rfl rfl (by simp) (eo (by omega) (by decide)) (by omega) ?_);intro S c1 s W C V u1;go_wp2;go_ret;exact C.fin rfl (JX.1 (by omega)) (by omega) (by omega)
 ·rcases ZP with rfl|rfl|rfl|rfl;all_goals
   go_wp2_with fail;refine(dA R _ _ C.rd (by omega)).mono ?_;rintro e l ⟨t,rfl,ht,hR,b⟩;replace C:=ae (C.ac b hR);clear b hR
   iterate 2
    go_wp2_with fail;with_reducible first|refine(ba _ _).mono ?_|refine(bB _ _ _).mono ?_|refine(bj _ _).mono ?_
    rintro e l ⟨rfl,j⟩;replace C:=ae (C.aa j);clear j
   go_wp2_with (at_builtin;first|(refine fP rfl _ _ rfl C [(1,t.data.toList,0),(12,[],0)] 2 (by simp[Act.eval]) (by simp[Act.eval]) rfl rfl (by simp) (eo (by omega) (by decide)) (by omega) ?_)|(refine fP rfl _ _ rfl C [(1,t.data.toList,0),(13,[],0)] 2 (by simp[Act.eval]) (by simp[Act.eval]) rfl rfl (by simp) (eo (by omega) (by decide)) (by omega) ?_));intro S c1 s W C V u1;go_wp2;go_ret;exact C.fin rfl (JX.1 (by omega)) (by omega) (by omega)
 ·skip;go_wp2_with fail;refine(dA R _ _ C.rd (by omega)).mono ?_;rintro e l ⟨t,rfl,ht,hR,b⟩;replace C:=ae (C.ac b hR);clear b hR;iterate 2
   go_wp2_with fail;with_reducible first|refine(ba _ _).mono ?_|refine(bB _ _ _).mono ?_|refine(bj _ _).mono ?_
   rintro e l ⟨rfl,j⟩;replace C:=ae (C.aa j);clear j
  go_wp2_with fail;refine(aw R _ 3 _ C.rd (by omega) (by omega) (by omega)).mono ?_;rintro e l ⟨y,rfl,y0,y1,hR,b⟩;replace C:=ae (C.ac b hR);clear b hR;iterate 2
   go_wp2_with fail;with_reducible first|refine(ba _ _).mono ?_|refine(bB _ _ _).mono ?_|refine(bj _ _).mono ?_
   rintro e l ⟨rfl,j⟩;replace C:=ae (C.aa j);clear j
  go_wp2_with (at_builtin;refine fP rfl _ _ rfl C [(1,t.data.toList,0),(12,[],0),(5,[],y),(12,[],0)] 4 (by simp[Act.eval]) (by simp[Act.eval]) rfl rfl (by simp) (eo (by omega) (by intro i hi;simp only[BO,nj,RH] at hi;rcases hi with rfl|rfl|rfl<;>exact IH _)) (by omega) ?_);intro S c1 s W C V u1;go_wp2;go_ret;exact C.fin rfl (JX.1 (by omega)) (by omega) (by omega)
 ·have u:=fd (by omega);obtain⟨ZJ,ZI,aq⟩:=ex u;rcases ZP with rfl|rfl|rfl|rfl;all_goals
   go_wp2_with fail;refine(ZK u R _ at_ _ C.rd (by omega) (by omega) (by omega)).mono ?_;rintro e l ⟨ZQ,E,D,rfl,hM,f,K,m,q1,hq1,hR,b⟩;replace C:=ae (C.ac b hR);have ZO:=ae hM.news;have o:=ae m;have n:=ae f;have P:=JX.2 f;clear b hR hM m f;go_wp2_with (at_builtin;refine nY rfl _ _ rfl C br (N E 0 Z) ZQ.length D (by simp[Act.eval]) (by simp[Act.eval]) rfl n ZO o (by omega) ?_);intro S c1 s W C V u1;clear ZO o n
  ·skip;go_wp2_with fail;refine(ZK u R _ (at_+(s.length:Int)) _ C.rd (by omega) (by omega) (by omega)).mono ?_;rintro e l ⟨ZQ,E,D,rfl,hM,f,K,m,q2,bt,hR,b⟩;replace C:=ae (C.ac b hR);have ZO:=ae hM.news;have o:=ae m;have n:=ae f;have P:=JX.2 f;clear b hR hM m f;go_wp2_with (at_builtin;refine nY rfl _ _ rfl C br (N E 0 Z) ZQ.length D (by simp[Act.eval]) (by simp[Act.eval]) rfl n ZO o (by omega) ?_);intro g2 c2 L2 W2 C l2 u2;clear ZO o n;go_wp2_with fail;refine(aw R _ 2 _ C.rd (by omega) (by omega) (by omega)).mono ?_;rintro e l ⟨y,rfl,y0,y1,hR,b⟩;replace C:=ae (C.ac b hR);clear b hR;go_wp2_with fail;with_reducible first|refine(ba _ _).mono ?_|refine(bB _ _ _).mono ?_|refine(bj _ _).mono ?_
   rintro e l ⟨rfl,j⟩;replace C:=ae (C.aa j);clear j;go_wp2_with (at_builtin;refine fP rfl _ _ rfl C [((2+4*y),[],0)] 1 (by simp[Act.eval]) (by simp[Act.eval]) rfl rfl (by simp) (λi hi=>by rw[hU.1 hi];exact IH _) (by omega) ?_);intro g3 c3 ZN W3 C l3 u3;go_wp2;go_ret;exact C.fin rfl (JX.1 (by omega)) (by omega) (by omega)
  ·skip;go_wp2_with fail;refine(aw R _ 3 _ C.rd (by omega) (by omega) (by omega)).mono ?_;rintro e l ⟨x,rfl,x0,x1,hR,b⟩;replace C:=ae (C.ac b hR);clear b hR;go_wp2_with fail;refine(aw R _ 4 _ C.rd (by omega) (by omega) (by omega)).mono ?_;rintro e l ⟨y,rfl,y0,y1,hR,b⟩;replace C:=ae (C.ac b hR);clear b hR;go_wp2_with fail;with_reducible first|refine(ba _ _).mono ?_|refine(bB _ _ _).mono ?_|refine(bj _ _).mono ?_
   rintro e l ⟨rfl,j⟩;replace C:=ae (C.aa j);clear j;go_wp2_with (at_builtin;refine fP rfl _ _ rfl C [((3+x),[],y)] 1 (by simp[Act.eval]) (by simp[Act.eval]) rfl rfl (by simp) (λi hi=>by rw[hU.1 hi];exact IH _) (by omega) ?_);intro g2 c2 L2 W2 C l2 u2;go_wp2;go_ret;exact C.fin rfl (JX.1 (by omega)) (by omega) (by omega)
  all_goals
   go_wp2_with fail;with_reducible first|refine(ba _ _).mono ?_|refine(bB _ _ _).mono ?_|refine(bj _ _).mono ?_
   rintro e l ⟨rfl,j⟩;replace C:=ae (C.aa j);clear j;go_wp2_with (at_builtin;refine fP rfl _ _ rfl C [(11,[],0)] 1 (by simp[Act.eval]) (by simp[Act.eval]) rfl rfl (by simp) (λi hi=>by rw[hU.1 hi];exact IH _) (by omega) ?_);intro g2 c2 L2 W2 C l2 u2;go_wp2_with fail;refine(ZK u R _ (at_+(L2.length:Int)) _ C.rd (by omega) (by omega) (by omega)).mono ?_;rintro e l ⟨ZQ,E,D,rfl,hM,f,K,m,q3,hq3,hR,b⟩;replace C:=ae (C.ac b hR);have ZO:=ae hM.news;have o:=ae m;have n:=ae f;have P:=JX.2 f;clear b hR hM m f;go_wp2_with (at_builtin;refine nY rfl _ _ rfl C br (N E 0 Z) ZQ.length D (by simp[Act.eval]) (by simp[Act.eval]) rfl n ZO o (by omega) ?_);intro g3 c3 ZN W3 C l3 u3;clear ZO o n;go_wp2_with fail;with_reducible first|refine(ba _ _).mono ?_|refine(bB _ _ _).mono ?_|refine(bj _ _).mono ?_
   rintro e l ⟨rfl,j⟩;replace C:=ae (C.aa j);clear j;go_wp2_with (at_builtin;refine fP rfl _ _ rfl C [(10,[],0)] 1 (by simp[Act.eval]) (by simp[Act.eval]) rfl rfl (by simp) (λi hi=>by rw[hU.1 hi];exact IH _) (by omega) ?_);intro g4 c4 L4 W4 C l4 u4;obtain⟨⟨n0,cn⟩,fz⟩:=C.ir.cellN (i:=s.length) (by omega);have il:(s.length:Int)<(L4.length:Int):=by omega
   have gl:=C.ir.lt.2;go_wp2_with fail;refine(mr _ _).mono ?_;rintro e l ⟨rfl,G⟩;rw[G];clear G;generalize (if 200<at_+(L4.length:Int) then 200 else at_+(L4.length:Int))=sv;obtain⟨L5,hlk,ZR,H⟩:=C.ir.setN (i:=s.length) (by omega) sv;replace C:=ae (C.low ((cM (A (B w)) W4).setCell (p:=(N g4 (s.length*3+2) Z)) C.ir.lt.1 (Q I sv)) H (ZR C.tx));go_upto_region 33 with fail;generalize World.setCell W4 _ _=W5 at C ⊢;rw[<-hlk];have b5:=SL hlk;have d5:=SL hlk.symm;clear hlk ZR H cn fz gl il;go_wp2_with fail;refine(ZK u R _ (at_+(L5.length:Int)) _ C.rd (by omega) (by omega) (by omega)).mono ?_;rintro e l ⟨ZQ,E,D,rfl,hM,f,K,m,q6,hq6,hR,b⟩;replace C:=ae (C.ac b hR);have ZO:=ae hM.news;have o:=ae m;have n:=ae f;have P:=JX.2 f;clear b hR hM m f;go_wp2_with (at_builtin;refine nY rfl _ _ rfl C br (N E 0 Z) ZQ.length D (by simp[Act.eval]) (by simp[Act.eval]) rfl n ZO o (by omega) ?_);intro g6 c6 L6 W6 C l6 u6;clear ZO o n;obtain⟨⟨n0,cn⟩,fz⟩:=C.ir.cellN (i:=ZN.length) (by omega);have il:(ZN.length:Int)<(L6.length:Int):=by omega
   have gl:=C.ir.lt.2;go_wp2_with fail;refine(mr _ _).mono ?_;rintro e l ⟨rfl,G⟩;rw[G];clear G;generalize (if 200<at_+(L6.length:Int) then 200 else at_+(L6.length:Int))=sv;obtain⟨L7,hlk,ZR,H⟩:=C.ir.setN (i:=ZN.length) (by omega) sv;replace C:=ae (C.low ((cM (A (B w)) W6).setCell (p:=(N g6 (ZN.length*3+2) Z)) C.ir.lt.1 (Q I sv)) H (ZR C.tx));go_upto_region 35 with fail;generalize World.setCell W6 _ _=W7 at C ⊢;rw[<-hlk];have b7:=SL hlk;have d7:=SL hlk.symm;clear hlk ZR H cn fz gl il;go_wp2;go_ret;exact C.fin rfl (JX.1 (by omega)) (by omega) (by omega)
 ·skip;go_wp2_with fail;refine(fO R _ _ C.rd (by omega)).mono ?_;rintro e l ⟨t,rfl,ht,q2,bt,hR,b⟩;replace C:=ae (C.ac b hR);clear b hR;iterate 4
   go_wp2_with fail;with_reducible first|refine(ba _ _).mono ?_|refine(bB _ _ _).mono ?_|refine(bj _ _).mono ?_
   rintro e l ⟨rfl,j⟩;replace C:=ae (C.aa j);clear j
  go_wp2_with (at_builtin;refine fP rfl _ _ rfl C [(1,t.data.toList,0),(7,[],0),(8,[],0),(9,[],0)] 4 (by simp[Act.eval]) (by simp[Act.eval]) rfl rfl (by simp) (eo (by omega) (by decide)) (by omega) ?_);intro S c1 s W C V u1;go_wp2;go_ret;exact C.fin rfl (JX.1 (by omega)) (by omega) (by omega)
theorem xW (R p:Nat)(at_:Int)(w:M)(hR:Rd w R p)(f:p+14<=30000)(g:0<=at_)(h1:at_+4<=10000):Calls Pg 175 #[.pointer (T (N R 0 Z)),Q I at_,Q I 0] w λe b=>DI w R (p+14) 4 e b :=
 pT 0 4 14 4 14 (by omega) (by omega) (by omega) (by omega) (by omega) (λh=>absurd h (by omega)) (λh=>absurd h (by omega)) R p at_ w hR f g h1
theorem kU (d b f:Nat)(hd3:(d:Int)<=10)(hb:b<=44)(i:4<=b)(m:∀(R p:Nat) (at_:Int) (w:M),Rd w R p->p+f<=30000->0<=at_->at_+(b:Int)<=10000->Calls Pg 175 #[.pointer (T (N R 0 Z)),Q I at_,Q I d] w λe g=>DI w R (p+f) b e g)
  (R p:Nat) (at_:Int) (w:M) (hR:Rd w R p) (l:p+(3*f+14)<=30000) (h:0<=at_) (j:at_+((3*b+2:Nat):Int)<=10000) :
  Calls Pg 175 #[.pointer (T (N R 0 Z)),Q I at_,Q I ((d:Int)+1)] w λe g=>DI w R (p+(3*f+14)) (3*b+2) e g :=
 pT ((d:Int)+1) b f (3*b+2) (3*f+14) (by omega) (by omega) hb (by omega) (by omega) (λ_=>⟨nX _,nX _,i⟩) (λ_=>by rw[Int.add_sub_cancel];exact m) R p at_ w hR l h j
def VD (b f:Nat)(d:Int):Prop:=∀(R p:Nat) (at_:Int) (w:M),Rd w R p->p+b<=30000->0<=at_->at_+(f:Int)<=10000->Calls Pg 175 #[.pointer (T (N R 0 Z)),Q I at_,Q I d] w λe g=>DI w R (p+b) f e g
theorem vd0:VD 14 4 ((0:Nat):Int):=λR p at_ w hR b f h1=>xW R p at_ w hR b f (by omega)
theorem vd1:VD 56 14 ((1:Nat):Int):=λR p at_ w hR hp b h1=>kU 0 4 14 (by omega) (by omega) (by omega) vd0 R p at_ w hR (by omega) b (by omega)
theorem vd2:VD 182 44 ((2:Nat):Int):=λR p at_ w hR hp b h1=>kU 1 14 56 (by omega) (by omega) (by omega) vd1 R p at_ w hR (by omega) b (by omega)
theorem vd3:VD 560 134 ((3:Nat):Int):=λR p at_ w hR hp b h1=>kU 2 44 182 (by omega) (by omega) (by omega) vd2 R p at_ w hR (by omega) b (by omega)
theorem DI.mono{e:Ending}(h:DI w R q n e f)(j:q<=q')(hn:n<=b):DI w R q' b e f:=by obtain⟨L,g,c,h1,h2,r,o,i,p,m,l⟩:=h;exact⟨L,g,c,h1,h2,r,nD o hn,i,p,nD m j,l⟩
theorem tX (R p:Nat)(z:Int)(hz:z=0∨z=1)(w:M)(hR:Rd w R p)(hp:p<=29000):Calls Pg 175 #[.pointer (T (N R 0 Z)),Q I 0,Q I (2+z)] w λe b=>DI w R (p+560) 134 e b:=by
 rcases hz with rfl|rfl;{exact(vd2 R p 0 w hR (by omega) (by omega) (by omega)).mono λe b h=>h.mono (by omega) (by omega)};{exact vd3 R p 0 w hR (by omega) (by omega) (by omega)}
def ST (w:M)(R b:Nat)(W:M)(q:Nat):Prop:=Rd W R q/\Only R w W/\PB W b (Y Z 0 0)/\R<A (B w)/\(A (B w))<=b
def SC (w:M)(R b:Nat)(W:M)(q g c:Nat)(L:List I3)(n:Nat):Prop:=ST w R b W q/\IR W (b+1) g c L/\L.length<=n/\∀i∈L,i.2.1.length<=5000
theorem ST.rd (h:ST w R b W q):Rd W R q:=h.1
theorem ST.lt (h:ST w R b W q):b<A (B W):=h.2.2.1.lt
theorem ST.low (h:ST w R b W q)(hb:Below (b+1) W W'):ST w R b W' q:=by obtain⟨h1,h2,f,i,g⟩:=h;exact⟨h1.low hb (by omega),h2.then (hb.mono (by omega)),f.aa hb (by omega),i,g⟩
theorem ST.aa (h:ST w R b W q)(hb:Below (A (B W)) W W'):ST w R b W' q:=h.low (hb.mono h.lt)
theorem PB.ac{v:ZB}(h:PB w b v)(g:Only R w f)(hR:b≠R):PB f b v:=(g.block b h.lt hR).trans h
theorem ST.ac (h:ST w R b W q)(f:Only R W W')(hR:Rd W' R q'):ST w R b W' q':=by obtain⟨h1,h2,g,j,i⟩:=h;exact⟨hR,h2.trans f,g.ac f (by omega),j,i⟩
theorem ST.new (h:Rd w R q):ST w R (A (B w)) (w.alloc (J #[Y Z 0 0] 43)) q:=by have b:=(BS w).alloc ly (J #[Y Z 0 0] 43);exact⟨h.aa b ly,Only.q b,gM w _,h.lt,nX _⟩
theorem SC.st{c:Nat}(h:SC w R b W q g c L n):ST w R b W q:=h.1
theorem SC.ir{c:Nat}(h:SC w R b W q g c L n):IR W (b+1) g c L:=h.2.1
theorem SC.len{c:Nat}(h:SC w R b W q g c L n):L.length<=n:=h.2.2.1
theorem SC.up{c:Nat}(h:SC w R b W q g c L n)(f:n<=m):SC w R b W q g c L m:=⟨h.1,h.2.1,nD h.2.2.1 f,h.2.2.2⟩
theorem SC.aa{c:Nat}(h:SC w R b W q g c L n)(hb:Below (A (B W)) W W'):SC w R b W' q g c L n :=
 ⟨h.1.aa hb,h.2.1.aa hb ly,h.2.2⟩
theorem SC.ac{c:Nat}(h:SC w R b W q g c L n)(f:Only R W W')(hR:Rd W' R q'):SC w R b W' q' g c L n :=
 ⟨h.1.ac f hR,h.2.1.ac f (by have:=h.1.2.2.2;omega),h.2.2⟩
theorem SC.di{c:Nat}(h:ST w R b W q)(f:IR W' (A (B W)) g c L)(hn:L.length<=n)(j:∀i∈L,i.2.1.length<=5000)(l:Only R W W')(hR:Rd W' R q'):SC w R b W' q' g c L n :=
 ⟨h.ac l hR,aC f h.lt,hn,j⟩
theorem SC.app{c:Nat}(f:Array ZB)(h:SC w R b W q g c L n)(j:IR W' (b+1) g' c' (L++ZQ))(o:(W.alloc (J f 151)).grownBy W' (T g))(hn:n+ZQ.length<=n')(m:∀i∈ZQ,i.2.1.length<=5000):SC w R b W' q g' c' (L++ZQ) n':=by
 have p:=h.1.lt;have l:=bg ((cM (b+1) W).alloc p (J f 151)) o (by simp;omega) (λk e=>by have:=h.2.1.lt;simp at e;omega);refine⟨h.1.low l,j,by rw[eL];have:=h.len;omega,λi hi=>?_⟩;rcases BC.1 hi with hi|hi;{exact h.2.2.2 i hi};{exact m i hi}
theorem IR.new (W:M)(b:Nat)(hb:b<=A (B W))(L:List I3)(f:Array ZB)(g:f.toList=i3L L)(n:Nat)(hn:n=L.length)(hm:n<=100000):IR (W.alloc (J f 151)) b (A (B W)) n L:=by
 subst hn;have hz:f.size=L.length*3:=by rw[<-iD,<-g,ME]
 refine⟨iD L,.inr ⟨A (B W),L.length,f,rfl,hb,gM W _,nX _,by unfold maxLen;omega,hz,?_⟩⟩;rw[g,KI (by rw[iD];omega)]
theorem SC.lit (h:ST w R b W q)(L:List I3)(f:Array ZB)(l:f.toList=i3L L)(n:Nat)(hn:n=L.length)(g:n<=100000)(j:∀i∈L,i.2.1.length<=5000):SC w R b (W.alloc (J f 151)) q (A (B W)) n L n :=
 ⟨h.aa (br.alloc ly _),IR.new W (b+1) h.lt L f l n hn g,by omega,j⟩
theorem SC.fin{c:Nat}(h:SC w R b W q g c L n)(v:ZB):PB (W.setCell (N b 0 Z) v) b v/\IR (W.setCell (N b 0 Z) v) (A (B w)) g c L/\L.length<=n/\(∀i∈L,i.2.1.length<=5000)/\Rd (W.setCell (N b 0 Z) v) R q/\Only R w (W.setCell (N b 0 Z) v):=by obtain⟨⟨h1,h2,r,o,f⟩,m,l,j⟩:=h;have ZS:=(cM (A (B w)) W).setCell (p:=(N b 0 Z)) f v;exact⟨r.set v,aC (zN m (by omega) v) (by omega),l,j,h1.low ZS o,h2.then ZS⟩
def DP (w:M)(R q lo n:Nat)(e:Ending)(w':M):Prop:=∃(L:List I3) (g c:Nat),e=ZD (.agg #[Y (T (N g 0 Z)) L.length c])/\IR w' (A (B w)) g c L/\lo<=L.length/\L.length<=n/\(∀i∈L,i.2.1.length<=5000)/\∃q':Nat,q'<=q/\Rd w' R q'/\Only R w w'
theorem iX{fn:Func}{p:Tmp}(h:fn.results=#[.cell p 43])(tmps:Array ZB)(w:M)(g:Nat)(v:ZB)(f:tmps.getD p undef=.pointer (T (N g 0 Z)))(b:PB w g v):(results fn tmps).run Pg w=.ok (.agg #[v]) w :=
 results_cell_row h tmps w g 43 #[v] (0,0) _ f b underlying43 rfl tW
def dm (L:List I3)(i:Nat):Ins:=⟨(L.getD i (0,[],0)).1,⟨(L.getD i (0,[],0)).2.1.toArray⟩,(L.getD i (0,[],0)).2.2⟩
theorem xX:∀(L:List I3) (i:Nat),i<L.length->(i3L L)[i*3]?=T (Q I (dm L i).op)/\(i3L L)[i*3+1]?=T (U (dm L i).s)/\(i3L L)[i*3+2]?=T (Q I (dm L i).n)
 |[],i,h=>by simp at h
 |x::L,0,_=>⟨rfl,rfl,rfl⟩
 |x::L,i+1,h=>by
  have g:=xX L i (by simpa using h);have f:(i3V x).length=3:=rfl;have e:∀k,(i3L (x::L))[(i+1)*3+k]?=(i3L L)[i*3+k]?:=λk=>by show(i3V x++i3L L)[(i+1)*3+k]?=_;rw[JP (by rw[f];omega),f,show(i+1)*3+k - 3=i*3+k by omega]
  have b:=e 0;rw[KL,KL] at b;rw[b,e 1,e 2];exact g
theorem IR.at{c:Nat}(h:IR w b g c L):∀i,i<L.length->AtIns w g 0 i (dm L i):=by intro i hi;obtain⟨f,h1,h2⟩:=xX L i hi;have c0:=h.news _ _ f;have c1:=h.news _ _ h1;have c2:=h.news _ _ h2;rw[fB] at c0 c1 c2;exact⟨c0,c1,c2⟩
theorem CO (b:∀i∈L,i.2.1.length<=5000):∀i,i<L.length->(dm L i).s.size<=maxLen:=by
 intro i hi;have h:=b L[i] (gz hi);have e:L.getD i (0,[],0)=L[i]:=by simp[hi]
 show(L.getD i (0,[],0)).2.1.toArray.size<=maxLen;rw[e,LG];unfold maxLen;omega
theorem tY (n:Nat)(w:M)(hn:(n:Int)<=300):Calls Pg 176 #[Q I n] w λe p=>∃(L:List I3) (g:Nat),e=ZD (Y (T (N g 0 Z)) 7 7)/\IR p (A (B w)) g 7 L/\L.length=7/\(∀i∈L,i.2.1.length<=5000)/\Below (A (B w)) w p:=by
 go_enter func176,ntmps176;go_wp2_with fail;refine(ej ⟨#[97,32]⟩ n _ (by show 2*n<=4000;omega) (by omega)).mono ?_;rintro e Wx ⟨t,rfl,j,h⟩;rw[h];have u:t.size<=5000:=nD j (by show 2*n<=5000;omega);clear j h;go_wp2_with fail;refine(bj t _).mono ?_;rintro e W1 ⟨rfl,b⟩;have m:=ae (b);clear b;go_wp2_with fail;refine(ba 7 _).mono ?_;rintro e W2 ⟨rfl,b⟩;have q:=ae (m.trans (b.mono m.size));clear b;go_wp2_with fail;refine(bB 5 0 _).mono ?_;rintro e W3 ⟨rfl,b⟩;have l:=ae (q.trans (b.mono q.size));clear b;go_wp2_with fail;refine(ba 13 _).mono ?_;rintro e W4 ⟨rfl,b⟩;have r:=ae (l.trans (b.mono l.size));clear b;go_wp2_with fail;refine(ba 9 _).mono ?_;rintro e W5 ⟨rfl,b⟩;have s:=ae (r.trans (b.mono r.size));clear b;go_wp2_with fail;refine(bB 4 2 _).mono ?_;rintro e W6 ⟨rfl,b⟩;have o:=ae (s.trans (b.mono s.size));clear b;go_wp2_with fail;refine(bB 10 1 _).mono ?_;rintro e x ⟨rfl,b⟩;have f:=ae (o.trans (b.mono o.size));clear b;go_wp2;go_ret;refine⟨[(1,t.data.toList,0),(7,[],0),(5,[],0),(13,[],0),(9,[],0),(4,[],2),(10,[],1)],_,rfl,IR.new x _ f.size _ _ rfl _ rfl (by omega),rfl,?_,f.alloc f.size _⟩;intro i hi;simp only[BO,nj,RH] at hi;rcases hi with rfl|rfl|rfl|rfl|rfl|rfl|rfl;{show t.data.toList.length<=5000;rw[ME];exact u};all_goals exact IH _
theorem ik (R p:Nat)(w:M)(hR:Rd w R p)(hp:p<=20000):Calls Pg 124 #[.pointer (T (N R 0 Z))] w λe w'=>DP w R (p+600) 1 140 e w':=by
 have E:=ae (ST.new hR);clear hR;go_enter func124,ntmps124;go_wp2_with fail;generalize World.alloc w _=W0 at E ⊢;refine(aw R _ 2 _ E.rd (by omega) (by omega) (by omega)).mono ?_;rintro e W1 ⟨d,rfl,W,S,hR,h⟩;have ZQ:=ae (E.ac h hR);clear h hR E;go_wp2_with fail;refine(tX R _ d (by omega) _ ZQ.rd (by omega)).mono ?_;rintro e W2 ⟨L,g,c,rfl,l,V,hn,D,ZJ,hq2,hR,h⟩;have C:Hid (SC w R (A (B w)) W2 ZJ g c L 134):=SC.di ZQ l hn D h hR;clear h hR l D V hn ZQ;go_wp2_with fail;refine(aw R _ 24 _ C.st.rd (by omega) (by omega) (by omega)).mono ?_;rintro e b ⟨z,rfl,z0,z1,hR,h⟩;replace C:=ae (C.ac h hR);clear h hR;go_upto_if 13 with fail;go_cut [3] (λm j=>∃(L:List I3) (g c q:Nat),m=Y (T (N g 0 Z)) L.length c/\q<=ZJ+2/\Hid (SC w R (A (B w)) j q g c L 135));case first =>
  rcases(show z=0∨z=1∨z=2∨3<=z by omega) with rfl|rfl|rfl|h3
  ·iterate 1
    go_wp2_with fail;with_reducible first|refine(ba _ _).mono ?_|refine(bB _ _ _).mono ?_|refine(bj _ _).mono ?_
    rintro e b ⟨rfl,f⟩;replace C:=ae (C.aa f);clear f
   have X:=ae (C.aa ((BS b).alloc ly (J #[Q I 14,U ⟨#[]⟩,Q I 0] 151)));have ln:=C.len;go_wp2_with (at_builtin;refine gi rfl (.tmp 14) (.tmp 16) rfl (A (B w)+1) g c L (by simp[Act.eval]) X.ir (N (A (B b)) 0 Z) 1 1 [(14,[],0)] (by simp[Act.eval]) rfl (by simp) (ed b #[Q I 14,U ⟨#[]⟩,Q I 0] _) (by simp only[BG,JJ];omega) (by have:=C.st.lt;simp;omega) ?_;intro ZS c1 ZO l r);go_meet;exact⟨_,ZS,c1,_,by simp,by omega,(C.app (n':=135) _ l r (by show 134+1<=135;omega) (λi hi=>by rw[hU.1 hi];exact IH _))⟩
  ·iterate 1
    go_wp2_with fail;with_reducible first|refine(ba _ _).mono ?_|refine(bB _ _ _).mono ?_|refine(bj _ _).mono ?_
    rintro e b ⟨rfl,f⟩;replace C:=ae (C.aa f);clear f
   have X:=ae (C.aa ((BS b).alloc ly (J #[Q I 10,U ⟨#[]⟩,Q I 0] 151)));have ln:=C.len;go_wp2_with (at_builtin;refine gi rfl (.tmp 20) (.tmp 22) rfl (A (B w)+1) g c L (by simp[Act.eval]) X.ir (N (A (B b)) 0 Z) 1 1 [(10,[],0)] (by simp[Act.eval]) rfl (by simp) (ed b #[Q I 10,U ⟨#[]⟩,Q I 0] _) (by simp only[BG,JJ];omega) (by have:=C.st.lt;simp;omega) ?_;intro ZS c1 ZO l r);go_meet;exact⟨_,ZS,c1,_,by simp,by omega,(C.app (n':=135) _ l r (by show 134+1<=135;omega) (λi hi=>by rw[hU.1 hi];exact IH _))⟩
  ·go_wp2_with fail;refine(aw R _ 15 _ C.st.rd (by omega) (by omega) (by omega)).mono ?_;rintro e b ⟨y,rfl,y0,y1,hR,h⟩;replace C:=ae (C.ac h hR);clear h hR;iterate 1
    go_wp2_with fail;with_reducible first|refine(ba _ _).mono ?_|refine(bB _ _ _).mono ?_|refine(bj _ _).mono ?_
    rintro e b ⟨rfl,f⟩;replace C:=ae (C.aa f);clear f
   have X:=ae (C.aa ((BS b).alloc ly (J #[Q I (1+y),U ⟨#[]⟩,Q I 0] 151)));have ln:=C.len;go_wp2_with (at_builtin;refine gi rfl (.tmp 26) (.tmp 31) rfl (A (B w)+1) g c L (by simp[Act.eval]) X.ir (N (A (B b)) 0 Z) 1 1 [((1+y),[],0)] (by simp[Act.eval]) rfl (by simp) (ed b #[Q I (1+y),U ⟨#[]⟩,Q I 0] _) (by simp only[BG,JJ];omega) (by have:=C.st.lt;simp;omega) ?_;intro ZS c1 ZO l r);go_meet;exact⟨_,ZS,c1,_,by simp,by omega,(C.app (n':=135) _ l r (by show 134+1<=135;omega) (λi hi=>by rw[hU.1 hi];exact IH _))⟩
  ·have n0:(z == 0)=ZA:=by simp;omega
   have n1:(z == 1)=ZA:=by simp;omega
   have n2:(z == 2)=ZA:=by simp;omega
   go_wp2;go_meet;exact⟨L,g,c,_,rfl,by omega,C.up (by omega)⟩
 case rest =>
 clear C;obtain⟨ZM,g0,c0,q3,rfl,hq3,C⟩:=hcut;iterate 1
  go_wp2_with fail;with_reducible first|refine(ba _ _).mono ?_|refine(bB _ _ _).mono ?_|refine(bj _ _).mono ?_
  rintro e b ⟨rfl,f⟩;replace C:=ae (C.aa f);clear f
 have X:=ae (C.aa ((BS b).alloc ly (J #[Q I 15,U ⟨#[]⟩,Q I 0] 151)));have ln:=C.len;go_upto_if 38 with (at_builtin;refine gi rfl (.tmp 33) (.tmp 35) rfl (A (B w)+1) g0 c0 ZM (by simp[Act.eval]) X.ir (N (A (B b)) 0 Z) 1 1 [(15,[],0)] (by simp[Act.eval]) rfl (by simp) (ed b #[Q I 15,U ⟨#[]⟩,Q I 0] _) (by simp only[BG,JJ];omega) (by have:=C.st.lt;simp;omega) ?_;intro g c ZO l r);replace C:=ae (C.app (n':=136) _ l r (by show 135+1<=136;omega) (λi hi=>by rw[hU.1 hi];exact IH _));clear l r X ln;generalize hL:ZM++[(15,[],0)]=L at C;have hn1:ZM.length+1=L.length:=by rw[<-hL,eL];rfl
 rw[hn1];clear hL hn1;go_cut [3] (λm j=>∃(L:List I3) (g c q:Nat),m=Y (T (N g 0 Z)) L.length c/\q<=q3/\Hid (SC w R (A (B w)) j q g c L 140));case first =>
  by_cases hz:z=3
  ·subst hz;iterate 4
    go_wp2_with fail;with_reducible first|refine(ba _ _).mono ?_|refine(bB _ _ _).mono ?_|refine(bj _ _).mono ?_
    rintro e b ⟨rfl,f⟩;replace C:=ae (C.aa f);clear f
   have u:=ae (SC.lit C.st [(1,[97,98,99,100,101,102,103,104],0),(7,[],0),(2,[],0),(10,[],1)] #[Q I 1,U ⟨#[97,98,99,100,101,102,103,104]⟩,Q I 0,Q I 7,U ⟨#[]⟩,Q I 0,Q I 2,U ⟨#[]⟩,Q I 0,Q I 10,U ⟨#[]⟩,Q I 1] rfl 4 rfl (by omega) (by decide));go_wp2;go_meet;exact⟨_,_,_,_,rfl,by omega,u.up (by omega)⟩
  {go_wp2;go_meet;exact⟨L,g,c,_,rfl,by omega,C.up (by omega)⟩}
 case rest =>
 clear C;obtain⟨L,g,c,q4,rfl,hq4,C⟩:=hcut;go_upto_if 45 with fail;go_cut [3] (λm j=>∃(L:List I3) (g c q:Nat),m=Y (T (N g 0 Z)) L.length c/\q<=q4+1/\Hid (SC w R (A (B w)) j q g c L 140));case first =>
  by_cases hz:z=4
  ·subst hz;go_wp2_with fail;refine(dA R _ _ C.st.rd (by omega)).mono ?_;rintro e b ⟨t,rfl,K,hR,h⟩;replace C:=ae (C.ac h hR);clear h hR;iterate 4
    go_wp2_with fail;with_reducible first|refine(ba _ _).mono ?_|refine(bB _ _ _).mono ?_|refine(bj _ _).mono ?_
    rintro e b ⟨rfl,f⟩;replace C:=ae (C.aa f);clear f
   have u:=ae (SC.lit C.st [(1,t.data.toList,0),(13,[],0),(9,[],0),(10,[],0)] #[Q I 1,U t,Q I 0,Q I 13,U ⟨#[]⟩,Q I 0,Q I 9,U ⟨#[]⟩,Q I 0,Q I 10,U ⟨#[]⟩,Q I 0] rfl 4 rfl (by omega) (eo (by omega) (by decide)));go_wp2;go_meet;exact⟨_,_,_,_,rfl,by omega,u.up (by omega)⟩
  {go_wp2;go_meet;exact⟨L,g,c,_,rfl,by omega,C.up (by omega)⟩}
 case rest =>
 clear C;obtain⟨L,g,c,q5,rfl,hq5,C⟩:=hcut;go_upto_region 14 with fail;go_cut [59] (λsb j=>∃(ZR:Bool) (q:Nat),sb=ZC ZR/\q<=q5+1/\Hid (SC w R (A (B w)) j q g c L 140));case first =>
  by_cases hz:z=7;{subst hz;go_wp2_with fail;refine(aw R _ 3 _ C.st.rd (by omega) (by omega) (by omega)).mono ?_;rintro e b ⟨x,rfl,x0,x1,hR,h⟩;replace C:=ae (C.ac h hR);clear h hR;go_wp2;go_meet;exact⟨_,_,rfl,by omega,C⟩};{go_wp2;go_meet;exact⟨_,_,rfl,by omega,C⟩}
 case rest =>
 clear C;obtain⟨ZR,ZL,rfl,hq5b,C⟩:=hcut;go_upto_if 59 with fail;go_cut [3] (λm j=>∃(L:List I3) (g c q:Nat),m=Y (T (N g 0 Z)) L.length c/\q<=ZL+1/\Hid (SC w R (A (B w)) j q g c L 140));case first =>
  cases ZR with
  |false =>go_wp2;go_meet;exact⟨L,g,c,_,rfl,by omega,C⟩
  |true =>
   go_wp2_with fail;refine(aw R _ 2 _ C.st.rd (by omega) (by omega) (by omega)).mono ?_;rintro e b ⟨y,rfl,y0,y1,hR,h⟩;replace C:=ae (C.ac h hR);clear h hR;go_wp2_with fail;obtain⟨m0,s⟩:∃m0:Nat,499+y=(m0:Int):=⟨(499+y).toNat,by omega⟩
   rw[s];refine(ej ⟨#[120]⟩ m0 _ (by show 1*m0<=4000;omega) (by omega)).mono ?_;rintro e Wm ⟨t,rfl,K,ZI⟩;rw[ZI];have aq:t.size<=5000:=nD K (by show 1*m0<=5000;omega);clear K s ZI;iterate 6
    go_wp2_with fail;with_reducible first|refine(ba _ _).mono ?_|refine(bB _ _ _).mono ?_|refine(bj _ _).mono ?_
    rintro e b ⟨rfl,f⟩;replace C:=ae (C.aa f);clear f
   have u:=ae (SC.lit C.st [(1,t.data.toList,0),(7,[],0),(11,[],5),(4,[],1),(10,[],1),(9,[],0)] #[Q I 1,U t,Q I 0,Q I 7,U ⟨#[]⟩,Q I 0,Q I 11,U ⟨#[]⟩,Q I 5,Q I 4,U ⟨#[]⟩,Q I 1,Q I 10,U ⟨#[]⟩,Q I 1,Q I 9,U ⟨#[]⟩,Q I 0] rfl 6 rfl (by omega) (eo aq (by decide)));go_wp2;go_meet;exact⟨_,_,_,_,rfl,by omega,u.up (by omega)⟩
 case rest =>
 clear C;obtain⟨L,g,c,q6,rfl,hq6,C⟩:=hcut;go_upto_region 16 with fail;go_cut [77] (λsb j=>∃(ZR:Bool) (q:Nat),sb=ZC ZR/\q<=q6+1/\Hid (SC w R (A (B w)) j q g c L 140));case first =>
  by_cases hz:z=6;{subst hz;go_wp2_with fail;refine(aw R _ 3 _ C.st.rd (by omega) (by omega) (by omega)).mono ?_;rintro e b ⟨x,rfl,x0,x1,hR,h⟩;replace C:=ae (C.ac h hR);clear h hR;go_wp2;go_meet;exact⟨_,_,rfl,by omega,C⟩};{go_wp2;go_meet;exact⟨_,_,rfl,by omega,C⟩}
 case rest =>
 clear C;obtain⟨ZR,ZK,rfl,hq6b,C⟩:=hcut;go_upto_if 77 with fail;go_cut [3] (λm j=>∃(L:List I3) (g c q:Nat),m=Y (T (N g 0 Z)) L.length c/\q<=ZK+1/\Hid (SC w R (A (B w)) j q g c L 140));case first =>
  cases ZR with
  |false =>go_wp2;go_meet;exact⟨L,g,c,_,rfl,by omega,C⟩
  |true =>
   go_wp2_with fail;refine(aw R _ 3 _ C.st.rd (by omega) (by omega) (by omega)).mono ?_;rintro e b ⟨y,rfl,y0,y1,hR,h⟩;replace C:=ae (C.ac h hR);clear h hR;go_wp2_with fail;obtain⟨m0,s⟩:∃m0:Nat,200+y - 1=(m0:Int):=⟨(200+y - 1).toNat,by omega⟩
   rw[s];refine(tY m0 _ (by omega)).mono ?_;rintro e W8 ⟨LW,gW,rfl,l,lq,D,f⟩;have C8:=ae (SC.di C.st l (n:=140) (by omega) D (Only.q f) (C.st.rd.aa f ly));clear l D f s;go_wp2;go_meet;exact⟨LW,gW,7,_,by rw[lq],by omega,C8⟩
 case rest =>
 clear C;obtain⟨L,g,c,q7,rfl,hq7,C⟩:=hcut;go_upto_if 84 with fail;go_cut [3] (λm j=>∃(L:List I3) (g c q:Nat),m=Y (T (N g 0 Z)) L.length c/\q<=q7/\Hid (SC w R (A (B w)) j q g c L 140));case first =>
  by_cases hz:z=5
  ·subst hz;iterate 2
    go_wp2_with fail;with_reducible first|refine(ba _ _).mono ?_|refine(bB _ _ _).mono ?_|refine(bj _ _).mono ?_
    rintro e b ⟨rfl,f⟩;replace C:=ae (C.aa f);clear f
   have u:=ae (SC.lit C.st [(1,[115],0),(10,[],0)] #[Q I 1,U ⟨#[115]⟩,Q I 0,Q I 10,U ⟨#[]⟩,Q I 0] rfl 2 rfl (by omega) (by decide));go_wp2;go_meet;exact⟨_,_,_,_,rfl,by omega,u.up (by omega)⟩
  {go_wp2;go_meet;exact⟨L,g,c,_,rfl,by omega,C.up (by omega)⟩}
 case rest =>
 clear C;obtain⟨L,g,c,ZN,rfl,hq8,C⟩:=hcut;have ln:=C.len;have ge:=C.ir.lt;go_wp2_with fail;refine(fl g 0 L.length c (dm L) _ (by omega) ge.2 (λi hi=>C.ir.at i (by omega)) (λi hi=>CO C.2.2.2 i (by omega))).mono ?_;rintro e Wv ⟨rfl,f⟩;have P:=ae (C.aa f);clear f;cases hv:valid (dm L) L.length with
 |true =>
  have vp:=(bM hv).2.1;clear hv;have o:=P.st.2.2.1;have zl:=o.lt;have W:=o.c0;have S:=o.fz 0;have fin:=ae (P.fin (Y (T (N g 0 Z)) L.length c));clear o;go_wp2;obtain⟨f1,G,f3,H,O,ZP⟩:=fin.out;try simp only[Exit.inBlock,Exit.then]
  refine bp (iX rfl _ _ (A (B w)) _ rfl f1) rfl ?_;exact⟨L,g,c,rfl,G,by omega,by omega,H,ZN,by omega,O,ZP⟩
 |false =>
  clear hv;replace C:=P;iterate 2
   go_wp2_with fail;with_reducible first|refine(ba _ _).mono ?_|refine(bB _ _ _).mono ?_|refine(bj _ _).mono ?_
   rintro e b ⟨rfl,f⟩;replace C:=ae (C.aa f);clear f
  have CC:=ae (SC.lit C.st [(1,[120],0),(15,[],0)] #[Q I 1,U ⟨#[120]⟩,Q I 0,Q I 15,U ⟨#[]⟩,Q I 0] rfl 2 rfl (by omega) (by decide));have o:=CC.st.2.2.1;have zl:=o.lt;have W:=o.c0;have S:=o.fz 0;have fin:=ae (CC.fin (Y (T (N (A (B b)) 0 Z)) 2 2));clear o;go_wp2;obtain⟨f1,G,f3,H,O,ZP⟩:=fin.out;try simp only[Exit.inBlock,Exit.then]
  refine bp (iX rfl _ _ (A (B w)) _ rfl f1) rfl ?_;exact⟨[(1,[120],0),(15,[],0)],A (B b),2,rfl,G,by simp,by simp,H,ZN,by omega,O,ZP⟩
theorem rM:∀(L:List I3) (i:Nat) (y:I3) (j:Nat) (v:ZB),j<3->i<L.length->i3V y=(i3V (L.getD i (0,[],0))).set j v->i3L (L.set i y)=(i3L L).set (i*3+j) v
 |[],i,y,j,v,_,h,_=>by simp at h
 |x::L,0,y,j,v,hj,_,e=>by show i3V y++i3L L=(i3V x++i3L L).set (0*3+j) v;rw[RJ _ _ (by show 0*3+j<3;omega),OU,JC];rw[show i3V y=(i3V x).set j v from e]
 |x::L,i+1,y,j,v,hj,h,e=>by have f:=rM L i y j v hj (by simpa using h) e;have b:(i3V x).length=3:=rfl;show i3V x++i3L (L.set i y)=(i3V x++i3L L).set ((i+1)*3+j) v;rw[f,NS _ _ (by rw[b];omega),b,show(i+1)*3+j - 3=i*3+j by omega]
theorem IR.set3{c:Nat}(h:IR w b g c L)(hi:i<L.length)(o:j<3)(y:I3)(v:ZB)(e:i3V y=(i3V (L.getD i (0,[],0))).set j v):IR (w.setCell (N g (i*3+j) Z) v) b g c (L.set i y):=by
 unfold IR;rw[JN,rM L i y j v o hi e];refine⟨by rw[JN];exact h.1,?_⟩;rcases h.2 with ⟨f,h0⟩|⟨g',cap,l,f,hb,p,h1,h2,n,m⟩
 {simp at f};{simp only[JG,JE,MK] at f;obtain⟨⟨rfl,-⟩,-,rfl⟩:=f;refine .inr ⟨g,c,l.setIfInBounds (i*3+j) v,rfl,hb,?_,h1,h2,by simpa using n,?_⟩;{simp[World.setCell,JV,p]};{rw[MP,T1,m]}}
theorem IR.take{c:Nat}(h:IR w b g c L)(k:Nat)(i:k<=L.length):IR w b g c (L.take k):=by
 have e:i3L (L.take k)=(i3L L).take (k*3):=by
  have h1:i3L L=i3L (L.take k)++i3L (L.drop k):=by rw[<-uR,MQ]
  have h2:(i3L (L.take k)).length=k*3:=by rw[iD,KN,MB i]
  rw[h1,<-h2,List.take_left'];rfl
 have n:(L.take k).length=k:=by rw[KN,MB i]
 unfold IR;rw[e,n];refine⟨by rw[KN,h.1,MB (by omega)],?_⟩;rcases h.2 with ⟨f,h0⟩|⟨g',cap,j,f,hb,o,h1,h2,m,l⟩
 {simp at f};{simp only[JG,JE,MK] at f;obtain⟨⟨rfl,-⟩,-,rfl⟩:=f;refine .inr ⟨g,c,j,rfl,hb,o,by omega,h2,m,?_⟩;rw[<-l,List.take_take,MB (by omega)]}
theorem IR.fz{f c:Nat}(h:IR w f g c L)(j:Nat):w.frozen? (N g j Z)=ZA:=by
 rcases h.2 with ⟨b,_⟩|⟨g',cap,cur,b,_,i,_⟩
 {simp at b};{simp only[JG,JE,MK] at b;obtain⟨⟨rfl,-⟩,-,rfl⟩:=b;exact TC i _}
theorem SC.set3{c:Nat}(h:SC w R b W q g c L n)(hi:i<L.length)(l:j<3)(y:I3)(v:ZB)(e:i3V y=(i3V (L.getD i (0,[],0))).set j v)(f:y.2.1.length<=5000):SC w R b (W.setCell (N g (i*3+j) Z) v) q g c (L.set i y) n:=by
 have ZS:=(cM (b+1) W).setCell (p:=(N g (i*3+j) Z)) h.ir.lt.1 v;refine⟨h.1.low ZS,h.ir.set3 hi l y v e,by rw[JN];exact h.len,λx m=>?_⟩;rcases J5 m with h1|h1;{exact h.2.2.2 x h1};{rw[h1];exact f}
theorem SC.take{c:Nat}(h:SC w R b W q g c L n)(k:Nat)(f:k<=L.length):SC w R b W q g c (L.take k) n :=
 ⟨h.1,h.ir.take k f,by rw[KN];have:=h.len;omega,λi hi=>h.2.2.2 i (RL hi)⟩
theorem SC.app0{c:Nat}(h:SC w R b W q g c L n)(f:IR W' (b+1) g' c' (L++ZQ))(m:W.grownBy W' (T g))(hn:L.length+ZQ.length<=n')(l:∀i∈ZQ,i.2.1.length<=5000):SC w R b W' q g' c' (L++ZQ) n':=by
 have hl:=h.1.lt;have j:=bg (cM (b+1) W) m (by omega) (λk e=>by have:=h.2.1.lt;simp at e;omega);refine⟨h.1.low j,f,by rw[eL];omega,λi hi=>?_⟩;rcases BC.1 hi with hi|hi;{exact h.2.2.2 i hi};{exact l i hi}
theorem SC.mono{c f:Nat}(h:SC w R b W q g c L n)(hn:L.length<=f):SC w R b W q g c L f:=⟨h.1,h.2.1,hn,h.2.2.2⟩
theorem SC.y{c:Nat}(h:SC w R b W q g c L n)(i:Nat)(hi:i<L.length):(L.getD i (0,[],0)).2.1.length<=5000:=by
 have e:L.getD i (0,[],0)=L[i]:=by simp[hi]
 rw[e];exact h.2.2.2 _ (gz hi)
theorem pU (h:Rd w R q)(v:ZB):SC w R (A (B w)+1) (((w.alloc (J #[v] 43)).alloc (J #[Y Z 0 0] 43)).alloc (J #[] 151)) q (A (B w)+2) 0 [] 0:=by
 have b:=(BS w).alloc ly (J #[v] 43);have f:=b.alloc b.size (J #[Y Z 0 0] 43);have g:=f.alloc f.size (J #[] 151);have hz:((w.alloc (J #[v] 43)).alloc (J #[Y Z 0 0] 43)).heap.size=A (B w)+2:=by simp
 have ZP:=IR.lit ((w.alloc (J #[v] 43)).alloc (J #[Y Z 0 0] 43));rw[hz] at ZP;refine⟨⟨h.aa g ly,Only.q g,?_,h.lt,by omega⟩,ZP,nX _,λi hi=>by cases hi⟩;show _=_;rw[heap_alloc_old _ _ (by simp)];exact heap_alloc2_new w _ _
