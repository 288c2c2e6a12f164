import Derived.Test.YtpmnbjkjpnclaaaGreatDoorRG
import Derived.Deep.DeepCutAuto
set_option maxRecDepth 100000
set_option maxHeartbeats 8000000
set_option linter.unusedSimpArgs false
open Go renaming Addr.mk->Q,Value.slice->Z,Value.string->U,Value.int->N,Value.bool->ZD,Obj.cells->J,IntKind.i64->I,World->M,Value->ZC,Ending.returned->ZF,Proofs.Tryz.prog->Pg
open Option renaming none->Y,some->T
open Bool renaming false->ZA
namespace Go.Proofs.YtpmnbjkjpnclaaaGreatDoor.Vp
open Tryz RowKit
variable {w W W':M}{R b q c g n q' m g' c' n' i j f:Nat}{L ZR:List I3}
theorem eS{t:ByteArray}{n:Int}(b:t.size<=5000)(hM:∀i∈ZR,i.2.1.length<=5000):∀i∈(1,t.data.toList,n)::ZR,i.2.1.length<=5000:=by
 intro i hi;rcases AT.1 hi with rfl|hi;{show t.data.toList.length<=5000;rw[QB];exact b};{exact hM i hi}
structure VS (w:M)(R:Nat)(W:M)(q g c:Nat)(L:List I3)(n:Nat):Prop where
 rd:Rd W R q
 o:Only R w W
 ir:IR W w.heap.size g c L
 tx:∀i∈L,i.2.1.length<=5000
 lo:R<w.heap.size
 le:L.length<=n
section
variable {w W W':M}{R q q' g c g' c' n:Nat}{L ZR:List I3}
theorem VS.G (h:VS w R W q g c L n)(b:Only R W W')(hR:Rd W' R q'):VS w R W' q' g c L n:=⟨hR,h.o.trans b,h.ir.G b h.lo,h.tx,h.lo,h.le⟩
theorem VS.aa (h:VS w R W q g c L n)(b:Below W.heap.size W W'):VS w R W' q g c L n:=h.G (Only.u b) (h.rd.aa b ly)
theorem VS.low (h:VS w R W q g c L n)(b:Below w.heap.size W W')(f:IR W' w.heap.size g' c' ZR)(hM:∀i∈ZR,i.2.1.length<=5000):VS w R W' q g' c' ZR ZR.length:=⟨h.rd.low b h.lo,h.o.then b,f,hM,h.lo,n6 _⟩
theorem VS.join (h:VS w R W q g c L n)(b:IR W' w.heap.size g' c' (L++ZR))(f:W.grownBy W' (T g))(hM:∀i∈ZR,i.2.1.length<=5000):VS w R W' q g' c' (L++ZR) (L++ZR).length :=
 h.low (bg (dB w.heap.size W) f h.o.size (λk e=>by have:=h.ir.lt;simp at e;omega)) b λi hi=>by
  rcases p8.1 hi with hi|hi
  ·exact h.tx i hi
  ·exact hM i hi
theorem VS.add (cs:Array ZC)(h:VS w R W q g c L n)(f:IR W' w.heap.size g' c' (L++ZR))(b:(W.alloc (J cs 151)).grownBy W' (T g))(hM:∀i∈ZR,i.2.1.length<=5000):VS w R W' q g' c' (L++ZR) (L++ZR).length :=
 (h.aa (br.alloc ly _)).join f b hM
theorem VS.fin{ZN ZO:Nat}(h:VS w R W q g c L n)(i:m=L.length)(b:L≠[])(hn:L.length<=ZO)(f:q<=ZN):DI w R ZN ZO (ZF (Z (T (Q g 0 Y)) m c)) W :=
 ⟨L,g,c,by rw[i],h.ir,b,hn,h.tx,q,f,h.rd,h.o⟩
end
section
variable {ops:Array Oper}{rest:List Oper}{o:Oper}{a:Act}{ZN:Exit->Act->M->Prop}{w W W':M}{R q g c n:Nat}{L ZR:List I3}
theorem qd (y:o.guard=Y)(s x:Operand)(E:o.op=.call { callee:=.builtin .append,args:=#[s,x],argTypes:=#[41,41] })(C:VS w R W q g c L n)(D:Below W.heap.size W W')(p:Addr)(m d:Nat)(G:a.eval s=Z (T (Q g 0 Y)) L.length c)(F:a.eval x=Z (T p) m d)(r:m=ZR.length)(z:ZR≠[])(f:∀j u,(i3L ZR)[j]?=T u->W'.cell? (p.add j)=T u)(hM:∀i∈ZR,i.2.1.length<=5000)(hlen:L.length+m<=100000)
  (h:∀g' c' b l,Hid (VS w R l q g' c' b b.length)->b.length<=L.length+m->L.length+m<=b.length->wpList Pg ops ZN rest (a.put o.dst (Z (T (Q g' 0 Y)) b.length c')) l):wpList Pg ops ZN (o::rest) a W':=by
 have t:=C.aa D;refine gK y s x E w.heap.size g c L G t.ir p m d ZR F r z f (by omega) t.o.size ?_;intro g' c' l A B;exact h g' c' (L++ZR) l (t.join A B hM) (by rw[cM,r];exact n6 _) (by rw[cM,r];exact n6 _)
theorem ii (p:o.guard=Y)(s x:Operand)(y:o.op=.call { callee:=.builtin .append,args:=#[s,x],argTypes:=#[41,41] })(C:VS w R W q g c L n)(ZR:List I3)(m:Nat){f:Array ZC}(A:a.eval s=Z (T (Q g 0 Y)) L.length c)(z:a.eval x=Z (T (Q W.heap.size 0 Y)) m m)(l:f.toList=i3L ZR)(u:m=ZR.length)(t:ZR≠[])(hM:∀i∈ZR,i.2.1.length<=5000)(j:L.length+m<=100000)
  (h:∀g' c' b r,Hid (VS w R r q g' c' b b.length)->b.length<=L.length+m->L.length+m<=b.length->wpList Pg ops ZN rest (a.put o.dst (Z (T (Q g' 0 Y)) b.length c')) r):wpList Pg ops ZN (o::rest) a (W.alloc (J f 151)) :=
 qd p s x y C (br.alloc ly _) _ m m A z u t (l ▸ dA W f _) hM j h
end
theorem sD (s:Int)(O nc B V:Nat)(hd3:s<=11)(hd0:0<=s)(hb:O<=44)(hB4:4<=B)(hC14:14<=V)(bt:0<s->3*O+2<=B/\3*nc+14<=V/\4<=O)(ZK:0<s->∀(R p:Nat) (at_:Int) (w:M),Rd w R p->p+nc<=30000->0<=at_->at_+(O:Int)<=10000->Calls Pg 175 #[.pointer (T (Q R 0 Y)),N I at_,N I (s - 1)] w λe w'=>DI w R (p+nc) O e w')
  (R p:Nat) (at_:Int) (w:M) (hR:Rd w R p) (hp:p+V<=30000) (ha0:0<=at_) (ha1:at_+(B:Int)<=10000) :
  Calls Pg 175 #[.pointer (T (Q R 0 Y)),N I at_,N I s] w λe w'=>DI w R (p+V) B e w':=by
 have ZL:=ae ZK;have A0:=(q9 w).alloc ly (J #[] 151);have C:Hid (VS w R (w.alloc (J #[] 151)) p w.heap.size 0 [] 0):=⟨hR.aa A0 ly,Only.u A0,IR.lit w,λi hi=>(by cases hi),hR.lt,n6 _⟩
 clear A0 hR ZK;go_enter func175,ntmps175;go_wp2_with fail;generalize World.alloc w _=W0 at C ⊢;refine(au R _ 12 _ C.rd (by omega) (by omega) (by omega)).mono ?_;rintro e l ⟨z,rfl,z0,z1,hR,b⟩;replace C:=ae (C.G b hR);clear b hR;go_upto_region 3 with fail;go_cut [19] (λsb wx=>∃H:Bool,sb=ZD H/\(H=true->6<z)/\(H=ZA->6<z->0<s)/\Hid (VS w R wx (p+1) w.heap.size 0 [] 0));case first =>
  by_cases h2:s<=0;{by_cases h3:6<z;{go_wp2;go_meet;exact⟨true,rfl,λ_=>h3,(λh=>by cases h),C.out⟩};{go_wp2;go_meet;exact⟨ZA,rfl,(λh=>by cases h),λ_ h=>absurd h (by omega),C⟩}};{go_wp2;go_meet;exact⟨ZA,rfl,(λh=>by cases h),λ_ _=>by omega,C.out⟩}
 case rest =>
 clear C;obtain⟨H,rfl,X,W,C⟩:=hcut;go_upto_if 19 with fail;go_cut [7,8] (λso sk wx=>∃(g c q:Nat) (L:List I3) (k:Int),so=Z (T (Q g 0 Y)) L.length c/\sk=N I k/\0<=k/\k<12/\(6<k->0<s)/\q<=p+1/\Hid (VS w R wx q g c L 0));case first =>
  cases H with
  |true =>
   have h2:=X rfl;have F:IntKind.i64.wrap (z - 6)=z - 6:=by rw[p9];omega
   go_wp2;go_meet;exact⟨_,_,_,[],_,rfl,rfl,by omega,by omega,λh=>by omega,n6 _,C⟩
  |false =>have ZJ:=ae (W rfl);go_wp2;go_meet;exact⟨_,_,_,[],_,rfl,rfl,by omega,by omega,ZJ,n6 _,C⟩
 case rest =>
 clear C;obtain⟨g,c,q,L,k,rfl,rfl,hk0,hk1,dg,hq,C⟩:=hcut;have hL0:=C.le;rcases(show(k=0∨k=1)∨(k=2∨k=3∨k=4∨k=6)∨k=5∨(k=7∨k=8∨k=9∨k=10)∨k=11 by omega) with P|P|rfl|P|rfl
 ·rcases P with rfl|rfl;all_goals
   go_wp2_with fail;refine(gZ R _ _ C.rd (by omega)).mono ?_;rintro e l ⟨t,rfl,ht,q2,aq,hR,b⟩;replace C:=ae (C.G b hR);clear b hR;go_wp2_with fail;with_reducible first|refine(aW _ _).mono ?_|refine(bw _ _ _).mono ?_|refine(bm _ _).mono ?_
   rintro e l ⟨rfl,j⟩;replace C:=ae (C.aa j);clear j;go_wp2_with (at_builtin;refine ii rfl _ _ rfl C [(1,t.data.toList,0)] 1 (by simp[Act.eval]) (by simp[Act.eval]) rfl rfl (by simp) (eS (by omega) (by decide)) (by omega) ?_);intro ZN c1 r S C ZM u1;go_wp2;go_ret;exact C.fin rfl (GC.1 (by omega)) (by omega) (by omega)
 ·rcases P with rfl|rfl|rfl|rfl;all_goals
   go_wp2_with fail;refine(eh R _ _ C.rd (by omega)).mono ?_;rintro e l ⟨t,rfl,ht,hR,b⟩;replace C:=ae (C.G b hR);clear b hR
   iterate 2
    go_wp2_with fail;with_reducible first|refine(aW _ _).mono ?_|refine(bw _ _ _).mono ?_|refine(bm _ _).mono ?_
    rintro e l ⟨rfl,j⟩;replace C:=ae (C.aa j);clear j
   go_wp2_with (at_builtin;first|(refine ii rfl _ _ rfl C [(1,t.data.toList,0),(12,[],0)] 2 (by simp[Act.eval]) (by simp[Act.eval]) rfl rfl (by simp) (eS (by omega) (by decide)) (by omega) ?_)|(refine ii rfl _ _ rfl C [(1,t.data.toList,0),(13,[],0)] 2 (by simp[Act.eval]) (by simp[Act.eval]) rfl rfl (by simp) (eS (by omega) (by decide)) (by omega) ?_));intro ZN c1 r S C ZM u1;go_wp2;go_ret;exact C.fin rfl (GC.1 (by omega)) (by omega) (by omega)
 ·skip;go_wp2_with fail;refine(eh R _ _ C.rd (by omega)).mono ?_;rintro e l ⟨t,rfl,ht,hR,b⟩;replace C:=ae (C.G b hR);clear b hR;iterate 2
   go_wp2_with fail;with_reducible first|refine(aW _ _).mono ?_|refine(bw _ _ _).mono ?_|refine(bm _ _).mono ?_
   rintro e l ⟨rfl,j⟩;replace C:=ae (C.aa j);clear j
  go_wp2_with fail;refine(au R _ 3 _ C.rd (by omega) (by omega) (by omega)).mono ?_;rintro e l ⟨y,rfl,y0,y1,hR,b⟩;replace C:=ae (C.G b hR);clear b hR;iterate 2
   go_wp2_with fail;with_reducible first|refine(aW _ _).mono ?_|refine(bw _ _ _).mono ?_|refine(bm _ _).mono ?_
   rintro e l ⟨rfl,j⟩;replace C:=ae (C.aa j);clear j
  go_wp2_with (at_builtin;refine ii rfl _ _ rfl C [(1,t.data.toList,0),(12,[],0),(5,[],y),(12,[],0)] 4 (by simp[Act.eval]) (by simp[Act.eval]) rfl rfl (by simp) (eS (by omega) (by intro i hi;simp only[AT,nj,RC] at hi;rcases hi with rfl|rfl|rfl<;>exact E4 _)) (by omega) ?_);intro ZN c1 r S C ZM u1;go_wp2;go_ret;exact C.fin rfl (GC.1 (by omega)) (by omega) (by omega)
 ·have u:=dg (by omega);obtain⟨X,W,ZJ⟩:=bt u;rcases P with rfl|rfl|rfl|rfl;all_goals
   go_wp2_with fail;refine(ZL u R _ at_ _ C.rd (by omega) (by omega) (by omega)).mono ?_;rintro e l ⟨ZR,D,E,rfl,hM,f,K,m,q1,hq1,hR,b⟩;replace C:=ae (C.G b hR);have ZP:=ae hM.news;have n:=ae m;have o:=ae f;have G:=GC.2 f;clear b hR hM m f;go_wp2_with (at_builtin;refine qd rfl _ _ rfl C br (Q D 0 Y) ZR.length E (by simp[Act.eval]) (by simp[Act.eval]) rfl o ZP n (by omega) ?_);intro ZN c1 r S C ZM u1;clear ZP n o
  ·skip;go_wp2_with fail;refine(ZL u R _ (at_+(r.length:Int)) _ C.rd (by omega) (by omega) (by omega)).mono ?_;rintro e l ⟨ZR,D,E,rfl,hM,f,K,m,q2,aq,hR,b⟩;replace C:=ae (C.G b hR);have ZP:=ae hM.news;have n:=ae m;have o:=ae f;have G:=GC.2 f;clear b hR hM m f;go_wp2_with (at_builtin;refine qd rfl _ _ rfl C br (Q D 0 Y) ZR.length E (by simp[Act.eval]) (by simp[Act.eval]) rfl o ZP n (by omega) ?_);intro g2 c2 L2 W2 C l2 u2;clear ZP n o;go_wp2_with fail;refine(au R _ 2 _ C.rd (by omega) (by omega) (by omega)).mono ?_;rintro e l ⟨y,rfl,y0,y1,hR,b⟩;replace C:=ae (C.G b hR);clear b hR;go_wp2_with fail;with_reducible first|refine(aW _ _).mono ?_|refine(bw _ _ _).mono ?_|refine(bm _ _).mono ?_
   rintro e l ⟨rfl,j⟩;replace C:=ae (C.aa j);clear j;go_wp2_with (at_builtin;refine ii rfl _ _ rfl C [((2+4*y),[],0)] 1 (by simp[Act.eval]) (by simp[Act.eval]) rfl rfl (by simp) (λi hi=>by rw[nD.1 hi];exact E4 _) (by omega) ?_);intro g3 c3 ZQ W3 C l3 u3;go_wp2;go_ret;exact C.fin rfl (GC.1 (by omega)) (by omega) (by omega)
  ·skip;go_wp2_with fail;refine(au R _ 3 _ C.rd (by omega) (by omega) (by omega)).mono ?_;rintro e l ⟨x,rfl,x0,x1,hR,b⟩;replace C:=ae (C.G b hR);clear b hR;go_wp2_with fail;refine(au R _ 4 _ C.rd (by omega) (by omega) (by omega)).mono ?_;rintro e l ⟨y,rfl,y0,y1,hR,b⟩;replace C:=ae (C.G b hR);clear b hR;go_wp2_with fail;with_reducible first|refine(aW _ _).mono ?_|refine(bw _ _ _).mono ?_|refine(bm _ _).mono ?_
   rintro e l ⟨rfl,j⟩;replace C:=ae (C.aa j);clear j;go_wp2_with (at_builtin;refine ii rfl _ _ rfl C [((3+x),[],y)] 1 (by simp[Act.eval]) (by simp[Act.eval]) rfl rfl (by simp) (λi hi=>by rw[nD.1 hi];exact E4 _) (by omega) ?_);intro g2 c2 L2 W2 C l2 u2;go_wp2;go_ret;exact C.fin rfl (GC.1 (by omega)) (by omega) (by omega)
  all_goals
   go_wp2_with fail;with_reducible first|refine(aW _ _).mono ?_|refine(bw _ _ _).mono ?_|refine(bm _ _).mono ?_
   rintro e l ⟨rfl,j⟩;replace C:=ae (C.aa j);clear j;go_wp2_with (at_builtin;refine ii rfl _ _ rfl C [(11,[],0)] 1 (by simp[Act.eval]) (by simp[Act.eval]) rfl rfl (by simp) (λi hi=>by rw[nD.1 hi];exact E4 _) (by omega) ?_);intro g2 c2 L2 W2 C l2 u2;go_wp2_with fail;refine(ZL u R _ (at_+(L2.length:Int)) _ C.rd (by omega) (by omega) (by omega)).mono ?_;rintro e l ⟨ZR,D,E,rfl,hM,f,K,m,q3,hq3,hR,b⟩;replace C:=ae (C.G b hR);have ZP:=ae hM.news;have n:=ae m;have o:=ae f;have G:=GC.2 f;clear b hR hM m f;go_wp2_with (at_builtin;refine qd rfl _ _ rfl C br (Q D 0 Y) ZR.length E (by simp[Act.eval]) (by simp[Act.eval]) rfl o ZP n (by omega) ?_);intro g3 c3 ZQ W3 C l3 u3;clear ZP n o;go_wp2_with fail;with_reducible first|refine(aW _ _).mono ?_|refine(bw _ _ _).mono ?_|refine(bm _ _).mono ?_
   rintro e l ⟨rfl,j⟩;replace C:=ae (C.aa j);clear j;go_wp2_with (at_builtin;refine ii rfl _ _ rfl C [(10,[],0)] 1 (by simp[Act.eval]) (by simp[Act.eval]) rfl rfl (by simp) (λi hi=>by rw[nD.1 hi];exact E4 _) (by omega) ?_);intro g4 c4 L4 W4 C l4 u4;obtain⟨⟨n0,cn⟩,fz⟩:=C.ir.cellN (i:=r.length) (by omega);have il:(r.length:Int)<(L4.length:Int):=by omega
   have gl:=C.ir.lt.2;go_wp2_with fail;refine(oz _ _).mono ?_;rintro e l ⟨rfl,F⟩;rw[F];clear F;generalize (if 200<at_+(L4.length:Int) then 200 else at_+(L4.length:Int))=sv;obtain⟨L5,hlk,A,ZO⟩:=C.ir.setN (i:=r.length) (by omega) sv;replace C:=ae (C.low ((dB w.heap.size W4).setCell (p:=(Q g4 (r.length*3+2) Y)) C.ir.lt.1 (N I sv)) ZO (A C.tx));go_upto_region 33 with fail;generalize World.setCell W4 _ _=W5 at C ⊢;rw[<-hlk];have b5:=Nat.le_of_eq hlk;have d5:=Nat.le_of_eq hlk.symm;clear hlk A ZO cn fz gl il;go_wp2_with fail;refine(ZL u R _ (at_+(L5.length:Int)) _ C.rd (by omega) (by omega) (by omega)).mono ?_;rintro e l ⟨ZR,D,E,rfl,hM,f,K,m,q6,hq6,hR,b⟩;replace C:=ae (C.G b hR);have ZP:=ae hM.news;have n:=ae m;have o:=ae f;have G:=GC.2 f;clear b hR hM m f;go_wp2_with (at_builtin;refine qd rfl _ _ rfl C br (Q D 0 Y) ZR.length E (by simp[Act.eval]) (by simp[Act.eval]) rfl o ZP n (by omega) ?_);intro g6 c6 L6 W6 C l6 u6;clear ZP n o;obtain⟨⟨n0,cn⟩,fz⟩:=C.ir.cellN (i:=ZQ.length) (by omega);have il:(ZQ.length:Int)<(L6.length:Int):=by omega
   have gl:=C.ir.lt.2;go_wp2_with fail;refine(oz _ _).mono ?_;rintro e l ⟨rfl,F⟩;rw[F];clear F;generalize (if 200<at_+(L6.length:Int) then 200 else at_+(L6.length:Int))=sv;obtain⟨L7,hlk,A,ZO⟩:=C.ir.setN (i:=ZQ.length) (by omega) sv;replace C:=ae (C.low ((dB w.heap.size W6).setCell (p:=(Q g6 (ZQ.length*3+2) Y)) C.ir.lt.1 (N I sv)) ZO (A C.tx));go_upto_region 35 with fail;generalize World.setCell W6 _ _=W7 at C ⊢;rw[<-hlk];have b7:=Nat.le_of_eq hlk;have d7:=Nat.le_of_eq hlk.symm;clear hlk A ZO cn fz gl il;go_wp2;go_ret;exact C.fin rfl (GC.1 (by omega)) (by omega) (by omega)
 ·skip;go_wp2_with fail;refine(gZ R _ _ C.rd (by omega)).mono ?_;rintro e l ⟨t,rfl,ht,q2,aq,hR,b⟩;replace C:=ae (C.G b hR);clear b hR;iterate 4
   go_wp2_with fail;with_reducible first|refine(aW _ _).mono ?_|refine(bw _ _ _).mono ?_|refine(bm _ _).mono ?_
   rintro e l ⟨rfl,j⟩;replace C:=ae (C.aa j);clear j
  go_wp2_with (at_builtin;refine ii rfl _ _ rfl C [(1,t.data.toList,0),(7,[],0),(8,[],0),(9,[],0)] 4 (by simp[Act.eval]) (by simp[Act.eval]) rfl rfl (by simp) (eS (by omega) (by decide)) (by omega) ?_);intro ZN c1 r S C ZM u1;go_wp2;go_ret;exact C.fin rfl (GC.1 (by omega)) (by omega) (by omega)
theorem Bz (R p:Nat)(at_:Int)(w:M)(hR:Rd w R p)(c:p+14<=30000)(b:0<=at_)(h1:at_+4<=10000):Calls Pg 175 #[.pointer (T (Q R 0 Y)),N I at_,N I 0] w λe f=>DI w R (p+14) 4 e f :=
 sD 0 4 14 4 14 (by omega) (by omega) (by omega) (by omega) (by omega) (λh=>absurd h (by omega)) (λh=>absurd h (by omega)) R p at_ w hR c b h1
theorem ng (d b c:Nat)(hd3:(d:Int)<=10)(hb:b<=44)(i:4<=b)(j:∀(R p:Nat) (at_:Int) (w:M),Rd w R p->p+c<=30000->0<=at_->at_+(b:Int)<=10000->Calls Pg 175 #[.pointer (T (Q R 0 Y)),N I at_,N I d] w λe f=>DI w R (p+c) b e f)
  (R p:Nat) (at_:Int) (w:M) (hR:Rd w R p) (l:p+(3*c+14)<=30000) (h:0<=at_) (g:at_+((3*b+2:Nat):Int)<=10000) :
  Calls Pg 175 #[.pointer (T (Q R 0 Y)),N I at_,N I ((d:Int)+1)] w λe f=>DI w R (p+(3*c+14)) (3*b+2) e f :=
 sD ((d:Int)+1) b c (3*b+2) (3*c+14) (by omega) (by omega) hb (by omega) (by omega) (λ_=>⟨n6 _,n6 _,i⟩) (λ_=>by rw[Int.add_sub_cancel];exact j) R p at_ w hR l h g
def VD (c b:Nat)(d:Int):Prop:=∀(R p:Nat) (at_:Int) (w:M),Rd w R p->p+c<=30000->0<=at_->at_+(b:Int)<=10000->Calls Pg 175 #[.pointer (T (Q R 0 Y)),N I at_,N I d] w λe f=>DI w R (p+c) b e f
theorem vd0:VD 14 4 ((0:Nat):Int):=λR p at_ w hR c b h1=>Bz R p at_ w hR c b (by omega)
theorem vd1:VD 56 14 ((1:Nat):Int):=λR p at_ w hR hp b h1=>ng 0 4 14 (by omega) (by omega) (by omega) vd0 R p at_ w hR (by omega) b (by omega)
theorem vd2:VD 182 44 ((2:Nat):Int):=λR p at_ w hR hp b h1=>ng 1 14 56 (by omega) (by omega) (by omega) vd1 R p at_ w hR (by omega) b (by omega)
theorem vd3:VD 560 134 ((3:Nat):Int):=λR p at_ w hR hp b h1=>ng 2 44 182 (by omega) (by omega) (by omega) vd2 R p at_ w hR (by omega) b (by omega)
theorem DI.mono{f:M}{e:Ending}(h:DI w R q n e f)(m:q<=q')(hn:n<=b):DI w R q' b e f:=by obtain⟨L,g,c,h1,h2,h3,h4,l,p,i,j⟩:=h;exact⟨L,g,c,h1,h2,h3,p7 h4 hn,l,p,p7 i m,j⟩
theorem xa (R p:Nat)(z:Int)(hz:z=0∨z=1)(w:M)(hR:Rd w R p)(hp:p<=29000):Calls Pg 175 #[.pointer (T (Q R 0 Y)),N I 0,N I (2+z)] w λe b=>DI w R (p+560) 134 e b:=by
 rcases hz with rfl|rfl;{exact(vd2 R p 0 w hR (by omega) (by omega) (by omega)).mono λe b h=>h.mono (by omega) (by omega)};{exact vd3 R p 0 w hR (by omega) (by omega) (by omega)}
def ST (w:M)(R b:Nat)(W:M)(q:Nat):Prop:=Rd W R q/\Only R w W/\PB W b (Z Y 0 0)/\R<w.heap.size/\w.heap.size<=b
def SC (w:M)(R b:Nat)(W:M)(q g c:Nat)(L:List I3)(n:Nat):Prop:=ST w R b W q/\IR W (b+1) g c L/\L.length<=n/\∀i∈L,i.2.1.length<=5000
theorem ST.rd (h:ST w R b W q):Rd W R q:=h.1
theorem ST.lt (h:ST w R b W q):b<W.heap.size:=h.2.2.1.lt
theorem ST.low (h:ST w R b W q)(hb:Below (b+1) W W'):ST w R b W' q:=by obtain⟨h1,h2,h3,h4,c⟩:=h;exact⟨h1.low hb (by omega),h2.then (hb.mono (by omega)),h3.aa hb (by omega),h4,c⟩
theorem ST.aa (h:ST w R b W q)(hb:Below W.heap.size W W'):ST w R b W' q:=h.low (hb.mono h.lt)
theorem PB.G{c:M}{v:ZC}(h:PB w b v)(f:Only R w c)(hR:b≠R):PB c b v:=(f.block b h.lt hR).trans h
theorem ST.G (h:ST w R b W q)(c:Only R W W')(hR:Rd W' R q'):ST w R b W' q':=by obtain⟨h1,h2,h3,h4,f⟩:=h;exact⟨hR,h2.trans c,h3.G c (by omega),h4,f⟩
theorem ST.new (h:Rd w R q):ST w R w.heap.size (w.alloc (J #[Z Y 0 0] 43)) q:=by have b:=(q9 w).alloc ly (J #[Z Y 0 0] 43);exact⟨h.aa b ly,Only.u b,nL w _,h.lt,n6 _⟩
theorem SC.st (h:SC w R b W q g c L n):ST w R b W q:=h.1
theorem SC.ir (h:SC w R b W q g c L n):IR W (b+1) g c L:=h.2.1
theorem SC.len (h:SC w R b W q g c L n):L.length<=n:=h.2.2.1
theorem SC.up (h:SC w R b W q g c L n)(f:n<=m):SC w R b W q g c L m:=⟨h.1,h.2.1,p7 h.2.2.1 f,h.2.2.2⟩
theorem SC.aa (h:SC w R b W q g c L n)(hb:Below W.heap.size W W'):SC w R b W' q g c L n :=
 ⟨h.1.aa hb,h.2.1.aa hb ly,h.2.2⟩
theorem SC.G (h:SC w R b W q g c L n)(f:Only R W W')(hR:Rd W' R q'):SC w R b W' q' g c L n :=
 ⟨h.1.G f hR,h.2.1.G f (by have:=h.1.2.2.2;omega),h.2.2⟩
theorem SC.di (h:ST w R b W q)(f:IR W' W.heap.size g c L)(hn:L.length<=n)(l:∀i∈L,i.2.1.length<=5000)(j:Only R W W')(hR:Rd W' R q'):SC w R b W' q' g c L n :=
 ⟨h.G j hR,aB f h.lt,hn,l⟩
theorem SC.app (f:Array ZC)(h:SC w R b W q g c L n)(j:IR W' (b+1) g' c' (L++ZR))(l:(W.alloc (J f 151)).grownBy W' (T g))(hn:n+ZR.length<=n')(p:∀i∈ZR,i.2.1.length<=5000):SC w R b W' q g' c' (L++ZR) n':=by
 have o:=h.1.lt;have m:=bg ((dB (b+1) W).alloc o (J f 151)) l (by simp;omega) (λk e=>by have:=h.2.1.lt;simp at e;omega);refine⟨h.1.low m,j,by rw[cM];have:=h.len;omega,λi hi=>?_⟩;rcases p8.1 hi with hi|hi;{exact h.2.2.2 i hi};{exact p i hi}
theorem IR.new (W:M)(b:Nat)(hb:b<=W.heap.size)(L:List I3)(c:Array ZC)(f:c.toList=i3L L)(n:Nat)(hn:n=L.length)(hm:n<=100000):IR (W.alloc (J c 151)) b W.heap.size n L:=by
 subst hn;have hz:c.size=L.length*3:=by rw[<-jH,<-f,QB]
 refine⟨jH L,.inr ⟨W.heap.size,L.length,c,rfl,hb,nL W _,n6 _,by unfold maxLen;omega,hz,?_⟩⟩;rw[f,IU (by rw[jH];omega)]
theorem SC.lit (h:ST w R c W q)(L:List I3)(b:Array ZC)(g:b.toList=i3L L)(n:Nat)(hn:n=L.length)(f:n<=100000)(j:∀i∈L,i.2.1.length<=5000):SC w R c (W.alloc (J b 151)) q W.heap.size n L n :=
 ⟨h.aa (br.alloc ly _),IR.new W (c+1) h.lt L b g n hn f,by omega,j⟩
theorem SC.fin (h:SC w R b W q g c L n)(v:ZC):PB (W.setCell (Q b 0 Y) v) b v/\IR (W.setCell (Q b 0 Y) v) w.heap.size g c L/\L.length<=n/\(∀i∈L,i.2.1.length<=5000)/\Rd (W.setCell (Q b 0 Y) v) R q/\Only R w (W.setCell (Q b 0 Y) v):=by obtain⟨⟨h1,h2,h3,h4,m⟩,f,l,j⟩:=h;have B:=(dB w.heap.size W).setCell (p:=(Q b 0 Y)) m v;exact⟨h3.set v,aB (Er f (by omega) v) (by omega),l,j,h1.low B h4,h2.then B⟩
def DP (w:M)(R q lo n:Nat)(e:Ending)(w':M):Prop:=∃(L:List I3) (g c:Nat),e=ZF (.agg #[Z (T (Q g 0 Y)) L.length c])/\IR w' w.heap.size g c L/\lo<=L.length/\L.length<=n/\(∀i∈L,i.2.1.length<=5000)/\∃q':Nat,q'<=q/\Rd w' R q'/\Only R w w'
theorem kq{fn:Func}{p:Tmp}(h:fn.results=#[.cell p 43])(tmps:Array ZC)(w:M)(g:Nat)(v:ZC)(b:tmps.getD p undef=.pointer (T (Q g 0 Y)))(c:PB w g v):(results fn tmps).run Pg w=.ok (.agg #[v]) w :=
 results_cell_row h tmps w g 43 #[v] (0,0) _ b c underlying43 rfl wW
def dq (L:List I3)(i:Nat):Ins:=⟨(L.getD i (0,[],0)).1,⟨(L.getD i (0,[],0)).2.1.toArray⟩,(L.getD i (0,[],0)).2.2⟩
theorem BD:∀(L:List I3) (i:Nat),i<L.length->(i3L L)[i*3]?=T (N I (dq L i).op)/\(i3L L)[i*3+1]?=T (U (dq L i).s)/\(i3L L)[i*3+2]?=T (N I (dq L i).n)
 |[],i,h=>by simp at h
 |x::L,0,_=>⟨rfl,rfl,rfl⟩
 |x::L,i+1,h=>by
  have f:=BD L i (by simpa using h);have b:(i3V x).length=3:=rfl;have e:∀k,(i3L (x::L))[(i+1)*3+k]?=(i3L L)[i*3+k]?:=λk=>by show(i3V x++i3L L)[(i+1)*3+k]?=_;rw[IX (by rw[b];omega),b,show(i+1)*3+k - 3=i*3+k by omega]
  have c:=e 0;rw[P6,P6] at c;rw[c,e 1,e 2];exact f
theorem IR.at (h:IR w b g c L):∀i,i<L.length->AtIns w g 0 i (dq L i):=by intro i hi;obtain⟨f,h1,h2⟩:=BD L i hi;have c0:=h.news _ _ f;have c1:=h.news _ _ h1;have c2:=h.news _ _ h2;rw[jd] at c0 c1 c2;exact⟨c0,c1,c2⟩
theorem Hl (b:∀i∈L,i.2.1.length<=5000):∀i,i<L.length->(dq L i).s.size<=maxLen:=by
 intro i hi;have h:=b L[i] (gz hi);have e:L.getD i (0,[],0)=L[i]:=by simp[hi]
 show(L.getD i (0,[],0)).2.1.toArray.size<=maxLen;rw[e,CV];unfold maxLen;omega
theorem xc (n:Nat)(w:M)(hn:(n:Int)<=300):Calls Pg 176 #[N I n] w λe q=>∃(L:List I3) (g:Nat),e=ZF (Z (T (Q g 0 Y)) 7 7)/\IR q w.heap.size g 7 L/\L.length=7/\(∀i∈L,i.2.1.length<=5000)/\Below w.heap.size w q:=by
 go_enter func176,ntmps176;go_wp2_with fail;refine(eQ ⟨#[97,32]⟩ n _ (by show 2*n<=4000;omega) (by omega)).mono ?_;rintro e Wx ⟨t,rfl,o,j⟩;rw[j];have u:t.size<=5000:=p7 o (by show 2*n<=5000;omega);clear o j;go_wp2_with fail;refine(bm t _).mono ?_;rintro e W1 ⟨rfl,b⟩;have m:=ae (b);clear b;go_wp2_with fail;refine(aW 7 _).mono ?_;rintro e W2 ⟨rfl,b⟩;have f:=ae (m.trans (b.mono m.size));clear b;go_wp2_with fail;refine(bw 5 0 _).mono ?_;rintro e W3 ⟨rfl,b⟩;have l:=ae (f.trans (b.mono f.size));clear b;go_wp2_with fail;refine(aW 13 _).mono ?_;rintro e W4 ⟨rfl,b⟩;have r:=ae (l.trans (b.mono l.size));clear b;go_wp2_with fail;refine(aW 9 _).mono ?_;rintro e W5 ⟨rfl,b⟩;have p:=ae (r.trans (b.mono r.size));clear b;go_wp2_with fail;refine(bw 4 2 _).mono ?_;rintro e W6 ⟨rfl,b⟩;have h:=ae (p.trans (b.mono p.size));clear b;go_wp2_with fail;refine(bw 10 1 _).mono ?_;rintro e s ⟨rfl,b⟩;have c:=ae (h.trans (b.mono h.size));clear b;go_wp2;go_ret;refine⟨[(1,t.data.toList,0),(7,[],0),(5,[],0),(13,[],0),(9,[],0),(4,[],2),(10,[],1)],_,rfl,IR.new s _ c.size _ _ rfl _ rfl (by omega),rfl,?_,c.alloc c.size _⟩;intro i hi;simp only[AT,nj,RC] at hi;rcases hi with rfl|rfl|rfl|rfl|rfl|rfl|rfl;{show t.data.toList.length<=5000;rw[QB];exact u};all_goals exact E4 _
theorem ju (R p:Nat)(w:M)(hR:Rd w R p)(hp:p<=20000):Calls Pg 124 #[.pointer (T (Q R 0 Y))] w λe w'=>DP w R (p+600) 1 140 e w':=by
 have E:=ae (ST.new hR);clear hR;go_enter func124,ntmps124;go_wp2_with fail;generalize World.alloc w _=W0 at E ⊢;refine(au R _ 2 _ E.rd (by omega) (by omega) (by omega)).mono ?_;rintro e W1 ⟨d,rfl,ZJ,S,hR,h⟩;have ZQ:=ae (E.G h hR);clear h hR E;go_wp2_with fail;refine(xa R _ d (by omega) _ ZQ.rd (by omega)).mono ?_;rintro e W2 ⟨L,g,c,rfl,l,aq,hn,D,q2,hq2,hR,h⟩;have C:Hid (SC w R w.heap.size W2 q2 g c L 134):=SC.di ZQ l hn D h hR;clear h hR l D aq hn ZQ;go_wp2_with fail;refine(au R _ 24 _ C.st.rd (by omega) (by omega) (by omega)).mono ?_;rintro e f ⟨z,rfl,z0,z1,hR,h⟩;replace C:=ae (C.G h hR);clear h hR;go_upto_if 13 with fail;go_cut [3] (λm j=>∃(L:List I3) (g c q:Nat),m=Z (T (Q g 0 Y)) L.length c/\q<=q2+2/\Hid (SC w R w.heap.size j q g c L 135));case first =>
  rcases(show z=0∨z=1∨z=2∨3<=z by omega) with rfl|rfl|rfl|h3
  ·iterate 1
    go_wp2_with fail;with_reducible first|refine(aW _ _).mono ?_|refine(bw _ _ _).mono ?_|refine(bm _ _).mono ?_
    rintro e f ⟨rfl,b⟩;replace C:=ae (C.aa b);clear b
   have X:=ae (C.aa ((q9 f).alloc ly (J #[N I 14,U ⟨#[]⟩,N I 0] 151)));have ln:=C.len;go_wp2_with (at_builtin;refine gK rfl (.tmp 14) (.tmp 16) rfl (w.heap.size+1) g c L (by simp[Act.eval]) X.ir (Q f.heap.size 0 Y) 1 1 [(14,[],0)] (by simp[Act.eval]) rfl (by simp) (dA f #[N I 14,U ⟨#[]⟩,N I 0] _) (by simp only[eL,nX];omega) (by have:=C.st.lt;simp;omega) ?_;intro B c1 K l r);go_meet;exact⟨_,B,c1,_,by simp,by omega,(C.app (n':=135) _ l r (by show 134+1<=135;omega) (λi hi=>by rw[nD.1 hi];exact E4 _))⟩
  ·iterate 1
    go_wp2_with fail;with_reducible first|refine(aW _ _).mono ?_|refine(bw _ _ _).mono ?_|refine(bm _ _).mono ?_
    rintro e f ⟨rfl,b⟩;replace C:=ae (C.aa b);clear b
   have X:=ae (C.aa ((q9 f).alloc ly (J #[N I 10,U ⟨#[]⟩,N I 0] 151)));have ln:=C.len;go_wp2_with (at_builtin;refine gK rfl (.tmp 20) (.tmp 22) rfl (w.heap.size+1) g c L (by simp[Act.eval]) X.ir (Q f.heap.size 0 Y) 1 1 [(10,[],0)] (by simp[Act.eval]) rfl (by simp) (dA f #[N I 10,U ⟨#[]⟩,N I 0] _) (by simp only[eL,nX];omega) (by have:=C.st.lt;simp;omega) ?_;intro B c1 K l r);go_meet;exact⟨_,B,c1,_,by simp,by omega,(C.app (n':=135) _ l r (by show 134+1<=135;omega) (λi hi=>by rw[nD.1 hi];exact E4 _))⟩
  ·go_wp2_with fail;refine(au R _ 15 _ C.st.rd (by omega) (by omega) (by omega)).mono ?_;rintro e f ⟨y,rfl,W,V,hR,h⟩;replace C:=ae (C.G h hR);clear h hR;iterate 1
    go_wp2_with fail;with_reducible first|refine(aW _ _).mono ?_|refine(bw _ _ _).mono ?_|refine(bm _ _).mono ?_
    rintro e f ⟨rfl,b⟩;replace C:=ae (C.aa b);clear b
   have X:=ae (C.aa ((q9 f).alloc ly (J #[N I (1+y),U ⟨#[]⟩,N I 0] 151)));have ln:=C.len;go_wp2_with (at_builtin;refine gK rfl (.tmp 26) (.tmp 31) rfl (w.heap.size+1) g c L (by simp[Act.eval]) X.ir (Q f.heap.size 0 Y) 1 1 [((1+y),[],0)] (by simp[Act.eval]) rfl (by simp) (dA f #[N I (1+y),U ⟨#[]⟩,N I 0] _) (by simp only[eL,nX];omega) (by have:=C.st.lt;simp;omega) ?_;intro B c1 K l r);go_meet;exact⟨_,B,c1,_,by simp,by omega,(C.app (n':=135) _ l r (by show 134+1<=135;omega) (λi hi=>by rw[nD.1 hi];exact E4 _))⟩
  ·have n0:(z == 0)=ZA:=by simp;omega
   have n1:(z == 1)=ZA:=by simp;omega
   have n2:(z == 2)=ZA:=by simp;omega
   go_wp2;go_meet;exact⟨L,g,c,_,rfl,by omega,C.up (by omega)⟩
 case rest =>
 clear C;obtain⟨ZO,g0,c0,q3,rfl,hq3,C⟩:=hcut;iterate 1
  go_wp2_with fail;with_reducible first|refine(aW _ _).mono ?_|refine(bw _ _ _).mono ?_|refine(bm _ _).mono ?_
  rintro e f ⟨rfl,b⟩;replace C:=ae (C.aa b);clear b
 have X:=ae (C.aa ((q9 f).alloc ly (J #[N I 15,U ⟨#[]⟩,N I 0] 151)));have ln:=C.len;go_upto_if 38 with (at_builtin;refine gK rfl (.tmp 33) (.tmp 35) rfl (w.heap.size+1) g0 c0 ZO (by simp[Act.eval]) X.ir (Q f.heap.size 0 Y) 1 1 [(15,[],0)] (by simp[Act.eval]) rfl (by simp) (dA f #[N I 15,U ⟨#[]⟩,N I 0] _) (by simp only[eL,nX];omega) (by have:=C.st.lt;simp;omega) ?_;intro g c K l r);replace C:=ae (C.app (n':=136) _ l r (by show 135+1<=136;omega) (λi hi=>by rw[nD.1 hi];exact E4 _));clear l r X ln;generalize hL:ZO++[(15,[],0)]=L at C;have hn1:ZO.length+1=L.length:=by rw[<-hL,cM];rfl
 rw[hn1];clear hL hn1;go_cut [3] (λm j=>∃(L:List I3) (g c q:Nat),m=Z (T (Q g 0 Y)) L.length c/\q<=q3/\Hid (SC w R w.heap.size j q g c L 140));case first =>
  by_cases hz:z=3
  ·subst hz;iterate 4
    go_wp2_with fail;with_reducible first|refine(aW _ _).mono ?_|refine(bw _ _ _).mono ?_|refine(bm _ _).mono ?_
    rintro e f ⟨rfl,b⟩;replace C:=ae (C.aa b);clear b
   have A:=ae (SC.lit C.st [(1,[97,98,99,100,101,102,103,104],0),(7,[],0),(2,[],0),(10,[],1)] #[N I 1,U ⟨#[97,98,99,100,101,102,103,104]⟩,N I 0,N I 7,U ⟨#[]⟩,N I 0,N I 2,U ⟨#[]⟩,N I 0,N I 10,U ⟨#[]⟩,N I 1] rfl 4 rfl (by omega) (by decide));go_wp2;go_meet;exact⟨_,_,_,_,rfl,by omega,A.up (by omega)⟩
  {go_wp2;go_meet;exact⟨L,g,c,_,rfl,by omega,C.up (by omega)⟩}
 case rest =>
 clear C;obtain⟨L,g,c,q4,rfl,hq4,C⟩:=hcut;go_upto_if 45 with fail;go_cut [3] (λm j=>∃(L:List I3) (g c q:Nat),m=Z (T (Q g 0 Y)) L.length c/\q<=q4+1/\Hid (SC w R w.heap.size j q g c L 140));case first =>
  by_cases hz:z=4
  ·subst hz;go_wp2_with fail;refine(eh R _ _ C.st.rd (by omega)).mono ?_;rintro e f ⟨t,rfl,ZP,hR,h⟩;replace C:=ae (C.G h hR);clear h hR;iterate 4
    go_wp2_with fail;with_reducible first|refine(aW _ _).mono ?_|refine(bw _ _ _).mono ?_|refine(bm _ _).mono ?_
    rintro e f ⟨rfl,b⟩;replace C:=ae (C.aa b);clear b
   have A:=ae (SC.lit C.st [(1,t.data.toList,0),(13,[],0),(9,[],0),(10,[],0)] #[N I 1,U t,N I 0,N I 13,U ⟨#[]⟩,N I 0,N I 9,U ⟨#[]⟩,N I 0,N I 10,U ⟨#[]⟩,N I 0] rfl 4 rfl (by omega) (eS (by omega) (by decide)));go_wp2;go_meet;exact⟨_,_,_,_,rfl,by omega,A.up (by omega)⟩
  {go_wp2;go_meet;exact⟨L,g,c,_,rfl,by omega,C.up (by omega)⟩}
 case rest =>
 clear C;obtain⟨L,g,c,q5,rfl,hq5,C⟩:=hcut;go_upto_region 14 with fail;go_cut [59] (λsb j=>∃(u:Bool) (q:Nat),sb=ZD u/\q<=q5+1/\Hid (SC w R w.heap.size j q g c L 140));case first =>
  by_cases hz:z=7;{subst hz;go_wp2_with fail;refine(au R _ 3 _ C.st.rd (by omega) (by omega) (by omega)).mono ?_;rintro e f ⟨x,rfl,x0,x1,hR,h⟩;replace C:=ae (C.G h hR);clear h hR;go_wp2;go_meet;exact⟨_,_,rfl,by omega,C⟩};{go_wp2;go_meet;exact⟨_,_,rfl,by omega,C⟩}
 case rest =>
 clear C;obtain⟨u,ZN,rfl,hq5b,C⟩:=hcut;go_upto_if 59 with fail;go_cut [3] (λm j=>∃(L:List I3) (g c q:Nat),m=Z (T (Q g 0 Y)) L.length c/\q<=ZN+1/\Hid (SC w R w.heap.size j q g c L 140));case first =>
  cases u with
  |false =>go_wp2;go_meet;exact⟨L,g,c,_,rfl,by omega,C⟩
  |true =>
   go_wp2_with fail;refine(au R _ 2 _ C.st.rd (by omega) (by omega) (by omega)).mono ?_;rintro e f ⟨y,rfl,W,V,hR,h⟩;replace C:=ae (C.G h hR);clear h hR;go_wp2_with fail;obtain⟨m0,s⟩:∃m0:Nat,499+y=(m0:Int):=⟨(499+y).toNat,by omega⟩
   rw[s];refine(eQ ⟨#[120]⟩ m0 _ (by show 1*m0<=4000;omega) (by omega)).mono ?_;rintro e Wm ⟨t,rfl,ZP,hw⟩;rw[hw];have ZL:t.size<=5000:=p7 ZP (by show 1*m0<=5000;omega);clear ZP s hw;iterate 6
    go_wp2_with fail;with_reducible first|refine(aW _ _).mono ?_|refine(bw _ _ _).mono ?_|refine(bm _ _).mono ?_
    rintro e f ⟨rfl,b⟩;replace C:=ae (C.aa b);clear b
   have A:=ae (SC.lit C.st [(1,t.data.toList,0),(7,[],0),(11,[],5),(4,[],1),(10,[],1),(9,[],0)] #[N I 1,U t,N I 0,N I 7,U ⟨#[]⟩,N I 0,N I 11,U ⟨#[]⟩,N I 5,N I 4,U ⟨#[]⟩,N I 1,N I 10,U ⟨#[]⟩,N I 1,N I 9,U ⟨#[]⟩,N I 0] rfl 6 rfl (by omega) (eS ZL (by decide)));go_wp2;go_meet;exact⟨_,_,_,_,rfl,by omega,A.up (by omega)⟩
 case rest =>
 clear C;obtain⟨L,g,c,q6,rfl,hq6,C⟩:=hcut;go_upto_region 16 with fail;go_cut [77] (λsb j=>∃(u:Bool) (q:Nat),sb=ZD u/\q<=q6+1/\Hid (SC w R w.heap.size j q g c L 140));case first =>
  by_cases hz:z=6;{subst hz;go_wp2_with fail;refine(au R _ 3 _ C.st.rd (by omega) (by omega) (by omega)).mono ?_;rintro e f ⟨x,rfl,x0,x1,hR,h⟩;replace C:=ae (C.G h hR);clear h hR;go_wp2;go_meet;exact⟨_,_,rfl,by omega,C⟩};{go_wp2;go_meet;exact⟨_,_,rfl,by omega,C⟩}
 case rest =>
 clear C;obtain⟨u,ZM,rfl,hq6b,C⟩:=hcut;go_upto_if 77 with fail;go_cut [3] (λm j=>∃(L:List I3) (g c q:Nat),m=Z (T (Q g 0 Y)) L.length c/\q<=ZM+1/\Hid (SC w R w.heap.size j q g c L 140));case first =>
  cases u with
  |false =>go_wp2;go_meet;exact⟨L,g,c,_,rfl,by omega,C⟩
  |true =>
   go_wp2_with fail;refine(au R _ 3 _ C.st.rd (by omega) (by omega) (by omega)).mono ?_;rintro e f ⟨y,rfl,W,V,hR,h⟩;replace C:=ae (C.G h hR);clear h hR;go_wp2_with fail;obtain⟨m0,s⟩:∃m0:Nat,200+y - 1=(m0:Int):=⟨(200+y - 1).toNat,by omega⟩
   rw[s];refine(xc m0 _ (by omega)).mono ?_;rintro e W8 ⟨LW,gW,rfl,l,lq,D,b⟩;have C8:=ae (SC.di C.st l (n:=140) (by omega) D (Only.u b) (C.st.rd.aa b ly));clear l D b s;go_wp2;go_meet;exact⟨LW,gW,7,_,by rw[lq],by omega,C8⟩
 case rest =>
 clear C;obtain⟨L,g,c,q7,rfl,hq7,C⟩:=hcut;go_upto_if 84 with fail;go_cut [3] (λm j=>∃(L:List I3) (g c q:Nat),m=Z (T (Q g 0 Y)) L.length c/\q<=q7/\Hid (SC w R w.heap.size j q g c L 140));case first =>
  by_cases hz:z=5
  ·subst hz;iterate 2
    go_wp2_with fail;with_reducible first|refine(aW _ _).mono ?_|refine(bw _ _ _).mono ?_|refine(bm _ _).mono ?_
    rintro e f ⟨rfl,b⟩;replace C:=ae (C.aa b);clear b
   have A:=ae (SC.lit C.st [(1,[115],0),(10,[],0)] #[N I 1,U ⟨#[115]⟩,N I 0,N I 10,U ⟨#[]⟩,N I 0] rfl 2 rfl (by omega) (by decide));go_wp2;go_meet;exact⟨_,_,_,_,rfl,by omega,A.up (by omega)⟩
  {go_wp2;go_meet;exact⟨L,g,c,_,rfl,by omega,C.up (by omega)⟩}
 case rest =>
 clear C;obtain⟨L,g,c,ZK,rfl,hq8,C⟩:=hcut;have ln:=C.len;have ge:=C.ir.lt;go_wp2_with fail;refine(gn g 0 L.length c (dq L) _ (by omega) ge.2 (λi hi=>C.ir.at i (by omega)) (λi hi=>Hl C.2.2.2 i (by omega))).mono ?_;rintro e Wv ⟨rfl,b⟩;have O:=ae (C.aa b);clear b;cases hv:valid (dq L) L.length with
 |true =>
  have vp:=(bP hv).2.1;clear hv;have o:=O.st.2.2.1;have zl:=o.lt;have ZJ:=o.c0;have S:=o.fz 0;have fin:=ae (O.fin (Z (T (Q g 0 Y)) L.length c));clear o;go_wp2;obtain⟨f1,H,f3,G,ZR,F⟩:=fin.out;try simp only[Exit.inBlock,Exit.then]
  refine bp (kq rfl _ _ w.heap.size _ rfl f1) rfl ?_;exact⟨L,g,c,rfl,H,by omega,by omega,G,ZK,by omega,ZR,F⟩
 |false =>
  clear hv;replace C:=O;iterate 2
   go_wp2_with fail;with_reducible first|refine(aW _ _).mono ?_|refine(bw _ _ _).mono ?_|refine(bm _ _).mono ?_
   rintro e f ⟨rfl,b⟩;replace C:=ae (C.aa b);clear b
  have P:=ae (SC.lit C.st [(1,[120],0),(15,[],0)] #[N I 1,U ⟨#[120]⟩,N I 0,N I 15,U ⟨#[]⟩,N I 0] rfl 2 rfl (by omega) (by decide));have o:=P.st.2.2.1;have zl:=o.lt;have ZJ:=o.c0;have S:=o.fz 0;have fin:=ae (P.fin (Z (T (Q f.heap.size 0 Y)) 2 2));clear o;go_wp2;obtain⟨f1,H,f3,G,ZR,F⟩:=fin.out;try simp only[Exit.inBlock,Exit.then]
  refine bp (kq rfl _ _ w.heap.size _ rfl f1) rfl ?_;exact⟨[(1,[120],0),(15,[],0)],f.heap.size,2,rfl,H,by simp,by simp,G,ZK,by omega,ZR,F⟩
theorem uD:∀(L:List I3) (i:Nat) (y:I3) (j:Nat) (v:ZC),j<3->i<L.length->i3V y=(i3V (L.getD i (0,[],0))).set j v->i3L (L.set i y)=(i3L L).set (i*3+j) v
 |[],i,y,j,v,_,h,_=>by simp at h
 |x::L,0,y,j,v,hj,_,e=>by show i3V y++i3L L=(i3V x++i3L L).set (0*3+j) v;rw[WF _ _ (by show 0*3+j<3;omega),WQ,FM];rw[show i3V y=(i3V x).set j v from e]
 |x::L,i+1,y,j,v,hj,h,e=>by have c:=uD L i y j v hj (by simpa using h) e;have b:(i3V x).length=3:=rfl;show i3V x++i3L (L.set i y)=(i3V x++i3L L).set ((i+1)*3+j) v;rw[c,SN _ _ (by rw[b];omega),b,show(i+1)*3+j - 3=i*3+j by omega]
theorem IR.set3 (h:IR w b g c L)(hi:i<L.length)(m:j<3)(y:I3)(v:ZC)(e:i3V y=(i3V (L.getD i (0,[],0))).set j v):IR (w.setCell (Q g (i*3+j) Y) v) b g c (L.set i y):=by
 unfold IR;rw[LB,uD L i y j v m hi e];refine⟨by rw[LB];exact h.1,?_⟩;rcases h.2 with ⟨f,h0⟩|⟨g',cap,l,f,hb,n,h1,h2,h3,h4⟩
 {simp at f};{simp only[OJ,OU,TX] at f;obtain⟨⟨rfl,-⟩,-,rfl⟩:=f;refine .inr ⟨g,c,l.setIfInBounds (i*3+j) v,rfl,hb,?_,h1,h2,by simpa using h3,?_⟩;{simp[World.setCell,CP,n]};{rw[QY,VZ,h4]}}
theorem IR.take (h:IR w b g c L)(k:Nat)(j:k<=L.length):IR w b g c (L.take k):=by
 have e:i3L (L.take k)=(i3L L).take (k*3):=by
  have h1:i3L L=i3L (L.take k)++i3L (L.drop k):=by rw[<-qZ,PQ]
  have h2:(i3L (L.take k)).length=k*3:=by rw[jH,OR,Q3 j]
  rw[h1,<-h2,List.take_left'];rfl
 have l:(L.take k).length=k:=by rw[OR,Q3 j]
 unfold IR;rw[e,l];refine⟨by rw[OR,h.1,Q3 (by omega)],?_⟩;rcases h.2 with ⟨f,h0⟩|⟨g',cap,i,f,hb,m,h1,h2,h3,h4⟩
 {simp at f};{simp only[OJ,OU,TX] at f;obtain⟨⟨rfl,-⟩,-,rfl⟩:=f;refine .inr ⟨g,c,i,rfl,hb,m,by omega,h2,h3,?_⟩;rw[<-h4,List.take_take,Q3 (by omega)]}
theorem IR.fz (h:IR w f g c L)(j:Nat):w.frozen? (Q g j Y)=ZA:=by
 rcases h.2 with ⟨b,_⟩|⟨g',cap,cur,b,_,i,_⟩
 {simp at b};{simp only[OJ,OU,TX] at b;obtain⟨⟨rfl,-⟩,-,rfl⟩:=b;exact PC i _}
theorem SC.set3 (h:SC w R b W q g c L n)(hi:i<L.length)(f:j<3)(y:I3)(v:ZC)(e:i3V y=(i3V (L.getD i (0,[],0))).set j v)(m:y.2.1.length<=5000):SC w R b (W.setCell (Q g (i*3+j) Y) v) q g c (L.set i y) n:=by
 have B:=(dB (b+1) W).setCell (p:=(Q g (i*3+j) Y)) h.ir.lt.1 v;refine⟨h.1.low B,h.ir.set3 hi f y v e,by rw[LB];exact h.len,λx l=>?_⟩;rcases PI l with h1|h1;{exact h.2.2.2 x h1};{rw[h1];exact m}
theorem SC.take (h:SC w R b W q g c L n)(k:Nat)(f:k<=L.length):SC w R b W q g c (L.take k) n :=
 ⟨h.1,h.ir.take k f,by rw[OR];have:=h.len;omega,λi hi=>h.2.2.2 i (WG hi)⟩
theorem SC.app0 (h:SC w R b W q g c L n)(f:IR W' (b+1) g' c' (L++ZR))(j:W.grownBy W' (T g))(hn:L.length+ZR.length<=n')(m:∀i∈ZR,i.2.1.length<=5000):SC w R b W' q g' c' (L++ZR) n':=by
 have hl:=h.1.lt;have l:=bg (dB (b+1) W) j (by omega) (λk e=>by have:=h.2.1.lt;simp at e;omega);refine⟨h.1.low l,f,by rw[cM];omega,λi hi=>?_⟩;rcases p8.1 hi with hi|hi;{exact h.2.2.2 i hi};{exact m i hi}
theorem SC.mono (h:SC w R f W q g c L n)(hn:L.length<=b):SC w R f W q g c L b:=⟨h.1,h.2.1,hn,h.2.2.2⟩
theorem SC.B (h:SC w R b W q g c L n)(i:Nat)(hi:i<L.length):(L.getD i (0,[],0)).2.1.length<=5000:=by
 have e:L.getD i (0,[],0)=L[i]:=by simp[hi]
 rw[e];exact h.2.2.2 _ (gz hi)
theorem sE (h:Rd w R q)(v:ZC):SC w R (w.heap.size+1) (((w.alloc (J #[v] 43)).alloc (J #[Z Y 0 0] 43)).alloc (J #[] 151)) q (w.heap.size+2) 0 [] 0:=by
 have f:=(q9 w).alloc ly (J #[v] 43);have b:=f.alloc f.size (J #[Z Y 0 0] 43);have c:=b.alloc b.size (J #[] 151);have hz:((w.alloc (J #[v] 43)).alloc (J #[Z Y 0 0] 43)).heap.size=w.heap.size+2:=by simp
 have ZQ:=IR.lit ((w.alloc (J #[v] 43)).alloc (J #[Z Y 0 0] 43));rw[hz] at ZQ;refine⟨⟨h.aa c ly,Only.u c,?_,h.lt,by omega⟩,ZQ,n6 _,λi hi=>by cases hi⟩;show _=_;rw[QR _ _ (by simp)];exact UY w _ _
