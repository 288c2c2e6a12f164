import Derived.Test.YtcnilonhfpimnaaGreatDoorFB
import Derived.Deep.DeepCutAuto
set_option linter.all false
set_option maxRecDepth 100000
set_option maxHeartbeats 8000000
open Go renaming Addr.mk->T,Value.slice->Z,Value.string->U,Value.int->J,Value.bool->ZF,Obj.cells->N,IntKind.i64->I,World->E,Value->ZB,Ending.returned->ZI,World.heap->B,Proofs.Tryz.prog->Pg
open Option renaming none->Y,some->Q
open Bool renaming false->ZA
open Array renaming size->A
open List renaming length->z
namespace Go.Proofs.YtcnilonhfpimnaaGreatDoor.Vp
open Tryz RowKit
variable {w W W' f:E}{R q rb g n b q' m g' c' n' i j:Nat}{L M:List I3}
def eS{t:F_}{n:Int}(b:t.size<=5000)(hM:∀i∈M,i.2.1.length<=5000):∀i∈(1,t.data.toList,n)::M,i.2.1.length<=5000:=by
 intro i hi;rcases vG.1 hi with rfl|hi;{show (z t.data.toList)<=5000;rw[RC];exact b};{exact hM i hi}
structure VS (w:E)(R:Nat)(W:E)(q g c:Nat)(L:List I3)(n:Nat):Prop where
 rd:Rd W R q
 o:zt R w W
 ir:IR W (A (B w)) g c L
 tx:∀i∈L,i.2.1.length<=5000
 lo:R<A (B w)
 le:z L<=n
section
variable {w W W':E}{R q q' g c g' c' n:Nat}{L M:List I3}
def VS.ac (h:VS w R W q g c L n)(b:zt R W W')(hR:Rd W' R q'):VS w R W' q' g c L n:=⟨hR,h.o.k b,h.ir.ac b h.lo,h.tx,h.lo,h.le⟩
def VS.aa (h:VS w R W q g c L n)(b:Below (A (B W)) W W'):VS w R W' q g c L n:=h.ac (zt.l b) (h.rd.aa b ly)
def VS.low (h:VS w R W q g c L n)(b:Below (A (B w)) W W')(f:IR W' (A (B w)) g' c' M)(hM:∀i∈M,i.2.1.length<=5000):VS w R W' q g' c' M (z M):=⟨h.rd.low b h.lo,h.o.then b,f,hM,h.lo,p7 _⟩
def VS.join (h:VS w R W q g c L n)(b:IR W' (A (B w)) g' c' (L++M))(f:W.grownBy W' (Q g))(hM:∀i∈M,i.2.1.length<=5000):VS w R W' q g' c' (L++M) (L++M).length:=
 h.low (bg (a8 (A (B w)) W) f h.o.size (λk e=>by have:=h.ir.lt;simp at e;omega)) b λi hi=>by
  rcases p8.1 hi with hi|hi
  ·exact h.tx i hi
  ·exact hM i hi
def VS.add (cs:Array ZB)(h:VS w R W q g c L n)(b:IR W' (A (B w)) g' c' (L++M))(f:(W.alloc (N cs 102)).grownBy W' (Q g))(hM:∀i∈M,i.2.1.length<=5000):VS w R W' q g' c' (L++M) (L++M).length:=
 (h.aa (br.alloc ly _)).join b f hM
def VS.fin{ZO ZQ:Nat}(h:VS w R W q g c L n)(i:m=z L)(b:L≠[])(hn:z L<=ZQ)(f:q<=ZO):DI w R ZO ZQ (ZI (Z (Q (T g 0 Y)) m c)) W:=
 ⟨L,g,c,by rw[i],h.ir,b,hn,h.tx,q,f,h.rd,h.o⟩
end
section
variable {ops:Array Oper}{rest:List Oper}{o:Oper}{a:Act}{ZO:Exit->Act->E->Prop}{w W W':E}{R q g c n:Nat}{L M:List I3}
def qg (ZW:o.guard=Y)(s x:Operand)(ZU:o.op=.call { callee:=.builtin .append,args:=#[s,x],argTypes:=#[35,35] })(C:VS w R W q g c L n)(H:Below (A (B W)) W W')(r:Addr)(m d:Nat)(D:a.eval s=Z (Q (T g 0 Y)) (z L) c)(ZV:a.eval x=Z (Q r) m d)(t:m=z M)(y:M≠[])(f:∀j u,(i3L M)[j]?=Q u->W'.cell? (r.add j)=Q u)(hM:∀i∈M,i.2.1.length<=5000)(hlen:z L+m<=100000)
  (h:∀g' c' b l,Hid (VS w R l q g' c' b (z b))->z b<=z L+m->z L+m<=z b->wpList Pg ops ZO rest (a.put o.dst (Z (Q (T g' 0 Y)) (z b) c')) l):wpList Pg ops ZO (o::rest) a W':=by
 have p:=C.aa H;refine gL ZW s x ZU (A (B w)) g c L D p.ir r m d M ZV t y f (by omega) p.o.size ?_;intro g' c' l ZT G;exact h g' c' (L++M) l (p.join ZT G hM) (by rw[cM,t];exact p7 _) (by rw[cM,t];exact p7 _)
def ie (p:o.guard=Y)(s x:Operand)(u:o.op=.call { callee:=.builtin .append,args:=#[s,x],argTypes:=#[35,35] })(C:VS w R W q g c L n)(M:List I3)(m:Nat){f:Array ZB}(ZW:a.eval s=Z (Q (T g 0 Y)) (z L) c)(y:a.eval x=Z (Q (T (A (B W)) 0 Y)) m m)(r:f.toList=i3L M)(ZU:m=z M)(l:M≠[])(hM:∀i∈M,i.2.1.length<=5000)(j:z L+m<=100000)
  (h:∀g' c' b t,Hid (VS w R t q g' c' b (z b))->z b<=z L+m->z L+m<=z b->wpList Pg ops ZO rest (a.put o.dst (Z (Q (T g' 0 Y)) (z b) c')) t):wpList Pg ops ZO (o::rest) a (W.alloc (N f 102)):=
 qg p s x u C (br.alloc ly _) _ m m ZW y ZU l (r ▸ eQ W f _) hM j h
end
def sB (r:Int)(H nc ZV V:Nat)(hd3:r<=11)(hd0:0<=r)(hb:H<=44)(hB4:4<=ZV)(hC14:14<=V)(ex:0<r->3*H+2<=ZV/\3*nc+14<=V/\4<=H)(bt:0<r->∀(R p:Nat) (at_:Int) (w:E),Rd w R p->p+nc<=30000->0<=at_->at_+(H:Int)<=10000->Calls Pg 81 #[.pointer (Q (T R 0 Y)),J I at_,J I (r - 1)] w λe w'=>DI w R (p+nc) H e w')
  (R p:Nat) (at_:Int) (w:E) (hR:Rd w R p) (hp:p+V<=30000) (ha0:0<=at_) (ha1:at_+(ZV:Int)<=10000) :
  Calls Pg 81 #[.pointer (Q (T R 0 Y)),J I at_,J I r] w λe w'=>DI w R (p+V) ZV e w':=by
 have S:=ae bt;have A0:=(BS w).alloc ly (N #[] 102);have C:Hid (VS w R (w.alloc (N #[] 102)) p (A (B w)) 0 [] 0):=⟨hR.aa A0 ly,zt.l A0,IR.lit w,λi hi=>(by cases hi),hR.lt,p7 _⟩
 clear A0 hR bt;go_enter func81,ntmps81;go_wp2_with fail;generalize World.alloc w _=W0 at C ⊢;refine(ay R _ 12 _ C.rd (by omega) (by omega) (by omega)).P ?_;rintro e l⟨ZW,rfl,z0,z1,hR,b⟩;replace C:=ae (C.ac b hR);clear b hR;go_upto_region 3 with fail;go_cut [19] (λsb wx=>∃K:Bool,sb=ZF K/\(K=true->6<ZW)/\(K=ZA->6<ZW->0<r)/\Hid (VS w R wx (p+1) (A (B w)) 0 [] 0));case first =>
  by_cases h2:r<=0;{by_cases h3:6<ZW;{go_wp2;go_meet;exact⟨true,rfl,λ_=>h3,(λh=>by cases h),C.i⟩};{go_wp2;go_meet;exact⟨ZA,rfl,(λh=>by cases h),λ_ h=>absurd h (by omega),C⟩}};{go_wp2;go_meet;exact⟨ZA,rfl,(λh=>by cases h),λ_ _=>by omega,C.i⟩}
 case rest =>
 clear C;obtain⟨K,rfl,ZM,X,C⟩:=hcut;go_upto_if 19 with fail;go_cut [7,8] (λso sk wx=>∃(g c q:Nat) (L:List I3) (k:Int),so=Z (Q (T g 0 Y)) (z L) c/\sk=J I k/\0<=k/\k<12/\(6<k->0<r)/\q<=p+1/\Hid (VS w R wx q g c L 0));case first =>
  cases K with
  |true =>
   have h2:=ZM rfl;have G:IntKind.i64.wrap (ZW - 6)=ZW - 6:=by rw[nL];omega
   go_wp2;go_meet;exact⟨_,_,_,[],_,rfl,rfl,by omega,by omega,λh=>by omega,p7 _,C⟩
  |false =>have aq:=ae (X rfl);go_wp2;go_meet;exact⟨_,_,_,[],_,rfl,rfl,by omega,by omega,aq,p7 _,C⟩
 case rest =>
 clear C;obtain⟨g,c,q,L,k,rfl,rfl,hk0,hk1,fd,hq,C⟩:=hcut;have hL0:=C.le;rcases(show(k=0\/k=1)\/(k=2\/k=3\/k=4\/k=6)\/k=5\/(k=7\/k=8\/k=9\/k=10)\/k=11 by omega) with O|O|rfl|O|rfl
 ·rcases O with rfl|rfl;all_goals
   go_wp2_with fail;refine(fT R _ _ C.rd (by omega)).P ?_;rintro e l⟨t,rfl,ht,q2,ZL,hR,b⟩;replace C:=ae (C.ac b hR);clear b hR;go_wp2_with fail;with_reducible first|refine(bq _ _).P ?_|refine(bS _ _ _).P ?_|refine(bC _ _).P ?_
   rintro e l⟨rfl,j⟩;replace C:=ae (C.aa j);clear j;go_wp2_with (at_builtin;refine ie rfl _ _ rfl C [(1,t.data.toList,0)] 1 (by simp[Act.eval]) (by simp[Act.eval]) rfl rfl (by simp) (eS (by omega) (by decide)) (by omega) ?_);intro ZP c1 s ZN C W u1;go_wp2;go_ret;exact C.fin rfl (NW.1 (by omega)) (by omega) (by omega)
 ·rcases O with rfl|rfl|rfl|rfl;all_goals
   go_wp2_with fail;refine(dH R _ _ C.rd (by omega)).P ?_;rintro e l⟨t,rfl,ht,hR,b⟩;replace C:=ae (C.ac b hR);clear b hR
   iterate 2
    go_wp2_with fail;with_reducible first|refine(bq _ _).P ?_|refine(bS _ _ _).P ?_|refine(bC _ _).P ?_
    rintro e l⟨rfl,j⟩;replace C:=ae (C.aa j);clear j
   go_wp2_with (at_builtin;first|(refine ie rfl _ _ rfl C [(1,t.data.toList,0),(12,[],0)] 2 (by simp[Act.eval]) (by simp[Act.eval]) rfl rfl (by simp) (eS (by omega) (by decide)) (by omega) ?_)|(refine ie rfl _ _ rfl C [(1,t.data.toList,0),(13,[],0)] 2 (by simp[Act.eval]) (by simp[Act.eval]) rfl rfl (by simp) (eS (by omega) (by decide)) (by omega) ?_));intro ZP c1 s ZN C W u1;go_wp2;go_ret;exact C.fin rfl (NW.1 (by omega)) (by omega) (by omega)
 ·skip;go_wp2_with fail;refine(dH R _ _ C.rd (by omega)).P ?_;rintro e l⟨t,rfl,ht,hR,b⟩;replace C:=ae (C.ac b hR);clear b hR;iterate 2
   go_wp2_with fail;with_reducible first|refine(bq _ _).P ?_|refine(bS _ _ _).P ?_|refine(bC _ _).P ?_
   rintro e l⟨rfl,j⟩;replace C:=ae (C.aa j);clear j
  go_wp2_with fail;refine(ay R _ 3 _ C.rd (by omega) (by omega) (by omega)).P ?_;rintro e l⟨y,rfl,y0,y1,hR,b⟩;replace C:=ae (C.ac b hR);clear b hR;iterate 2
   go_wp2_with fail;with_reducible first|refine(bq _ _).P ?_|refine(bS _ _ _).P ?_|refine(bC _ _).P ?_
   rintro e l⟨rfl,j⟩;replace C:=ae (C.aa j);clear j
  go_wp2_with (at_builtin;refine ie rfl _ _ rfl C [(1,t.data.toList,0),(12,[],0),(5,[],y),(12,[],0)] 4 (by simp[Act.eval]) (by simp[Act.eval]) rfl rfl (by simp) (eS (by omega) (by intro i hi;simp only[vG,nj,QW] at hi;rcases hi with rfl|rfl|rfl<;>exact DW _)) (by omega) ?_);intro ZP c1 s ZN C W u1;go_wp2;go_ret;exact C.fin rfl (NW.1 (by omega)) (by omega) (by omega)
 ·have ZU:=fd (by omega);obtain⟨ZM,X,aq⟩:=ex ZU;rcases O with rfl|rfl|rfl|rfl;all_goals
   go_wp2_with fail;refine(S ZU R _ at_ _ C.rd (by omega) (by omega) (by omega)).P ?_;rintro e l⟨M,D,ZT,rfl,hM,f,ZO,n,q1,hq1,hR,b⟩;replace C:=ae (C.ac b hR);have ZR:=ae hM.news;have m:=ae n;have o:=ae f;have ZS:=NW.2 f;clear b hR hM n f;go_wp2_with (at_builtin;refine qg rfl _ _ rfl C br (T D 0 Y) (z M) ZT (by simp[Act.eval]) (by simp[Act.eval]) rfl o ZR m (by omega) ?_);intro ZP c1 s ZN C W u1;clear ZR m o
  ·skip;go_wp2_with fail;refine(S ZU R _ (at_+(z s:Int)) _ C.rd (by omega) (by omega) (by omega)).P ?_;rintro e l⟨M,D,ZT,rfl,hM,f,ZO,n,q2,ZL,hR,b⟩;replace C:=ae (C.ac b hR);have ZR:=ae hM.news;have m:=ae n;have o:=ae f;have ZS:=NW.2 f;clear b hR hM n f;go_wp2_with (at_builtin;refine qg rfl _ _ rfl C br (T D 0 Y) (z M) ZT (by simp[Act.eval]) (by simp[Act.eval]) rfl o ZR m (by omega) ?_);intro g2 c2 L2 W2 C l2 u2;clear ZR m o;go_wp2_with fail;refine(ay R _ 2 _ C.rd (by omega) (by omega) (by omega)).P ?_;rintro e l⟨y,rfl,y0,y1,hR,b⟩;replace C:=ae (C.ac b hR);clear b hR;go_wp2_with fail;with_reducible first|refine(bq _ _).P ?_|refine(bS _ _ _).P ?_|refine(bC _ _).P ?_
   rintro e l⟨rfl,j⟩;replace C:=ae (C.aa j);clear j;go_wp2_with (at_builtin;refine ie rfl _ _ rfl C [((2+4*y),[],0)] 1 (by simp[Act.eval]) (by simp[Act.eval]) rfl rfl (by simp) (λi hi=>by rw[j4.1 hi];exact DW _) (by omega) ?_);intro g3 c3 ZQ W3 C l3 u3;go_wp2;go_ret;exact C.fin rfl (NW.1 (by omega)) (by omega) (by omega)
  ·skip;go_wp2_with fail;refine(ay R _ 3 _ C.rd (by omega) (by omega) (by omega)).P ?_;rintro e l⟨x,rfl,x0,x1,hR,b⟩;replace C:=ae (C.ac b hR);clear b hR;go_wp2_with fail;refine(ay R _ 4 _ C.rd (by omega) (by omega) (by omega)).P ?_;rintro e l⟨y,rfl,y0,y1,hR,b⟩;replace C:=ae (C.ac b hR);clear b hR;go_wp2_with fail;with_reducible first|refine(bq _ _).P ?_|refine(bS _ _ _).P ?_|refine(bC _ _).P ?_
   rintro e l⟨rfl,j⟩;replace C:=ae (C.aa j);clear j;go_wp2_with (at_builtin;refine ie rfl _ _ rfl C [((3+x),[],y)] 1 (by simp[Act.eval]) (by simp[Act.eval]) rfl rfl (by simp) (λi hi=>by rw[j4.1 hi];exact DW _) (by omega) ?_);intro g2 c2 L2 W2 C l2 u2;go_wp2;go_ret;exact C.fin rfl (NW.1 (by omega)) (by omega) (by omega)
  all_goals
   go_wp2_with fail;with_reducible first|refine(bq _ _).P ?_|refine(bS _ _ _).P ?_|refine(bC _ _).P ?_
   rintro e l⟨rfl,j⟩;replace C:=ae (C.aa j);clear j;go_wp2_with (at_builtin;refine ie rfl _ _ rfl C [(11,[],0)] 1 (by simp[Act.eval]) (by simp[Act.eval]) rfl rfl (by simp) (λi hi=>by rw[j4.1 hi];exact DW _) (by omega) ?_);intro g2 c2 L2 W2 C l2 u2;go_wp2_with fail;refine(S ZU R _ (at_+(z L2:Int)) _ C.rd (by omega) (by omega) (by omega)).P ?_;rintro e l⟨M,D,ZT,rfl,hM,f,ZO,n,q3,hq3,hR,b⟩;replace C:=ae (C.ac b hR);have ZR:=ae hM.news;have m:=ae n;have o:=ae f;have ZS:=NW.2 f;clear b hR hM n f;go_wp2_with (at_builtin;refine qg rfl _ _ rfl C br (T D 0 Y) (z M) ZT (by simp[Act.eval]) (by simp[Act.eval]) rfl o ZR m (by omega) ?_);intro g3 c3 ZQ W3 C l3 u3;clear ZR m o;go_wp2_with fail;with_reducible first|refine(bq _ _).P ?_|refine(bS _ _ _).P ?_|refine(bC _ _).P ?_
   rintro e l⟨rfl,j⟩;replace C:=ae (C.aa j);clear j;go_wp2_with (at_builtin;refine ie rfl _ _ rfl C [(10,[],0)] 1 (by simp[Act.eval]) (by simp[Act.eval]) rfl rfl (by simp) (λi hi=>by rw[j4.1 hi];exact DW _) (by omega) ?_);intro g4 c4 L4 W4 C l4 u4;obtain⟨⟨n0,cn⟩,fz⟩:=C.ir.cellN (i:=z s) (by omega);have il:(z s:Int)<(z L4:Int):=by omega
   have gl:=C.ir.lt.2;go_wp2_with fail;refine(oL _ _).P ?_;rintro e l⟨rfl,G⟩;rw[G];clear G;generalize (if 200<at_+(z L4:Int) then 200 else at_+(z L4:Int))=sv;obtain⟨L5,hlk,u,P⟩:=C.ir.setN (i:=z s) (by omega) sv;replace C:=ae (C.low ((a8 (A (B w)) W4).setCell (p:=(T g4 (z s*3+2) Y)) C.ir.lt.1 (J I sv)) P (u C.tx));go_upto_region 33 with fail;generalize World.setCell W4 _ _=W5 at C ⊢;rw[<-hlk];have b5:=VV hlk;have d5:=VV hlk.c;clear hlk u P cn fz gl il;go_wp2_with fail;refine(S ZU R _ (at_+(z L5:Int)) _ C.rd (by omega) (by omega) (by omega)).P ?_;rintro e l⟨M,D,ZT,rfl,hM,f,ZO,n,q6,hq6,hR,b⟩;replace C:=ae (C.ac b hR);have ZR:=ae hM.news;have m:=ae n;have o:=ae f;have ZS:=NW.2 f;clear b hR hM n f;go_wp2_with (at_builtin;refine qg rfl _ _ rfl C br (T D 0 Y) (z M) ZT (by simp[Act.eval]) (by simp[Act.eval]) rfl o ZR m (by omega) ?_);intro g6 c6 L6 W6 C l6 u6;clear ZR m o;obtain⟨⟨n0,cn⟩,fz⟩:=C.ir.cellN (i:=z ZQ) (by omega);have il:(z ZQ:Int)<(z L6:Int):=by omega
   have gl:=C.ir.lt.2;go_wp2_with fail;refine(oL _ _).P ?_;rintro e l⟨rfl,G⟩;rw[G];clear G;generalize (if 200<at_+(z L6:Int) then 200 else at_+(z L6:Int))=sv;obtain⟨L7,hlk,u,P⟩:=C.ir.setN (i:=z ZQ) (by omega) sv;replace C:=ae (C.low ((a8 (A (B w)) W6).setCell (p:=(T g6 (z ZQ*3+2) Y)) C.ir.lt.1 (J I sv)) P (u C.tx));go_upto_region 35 with fail;generalize World.setCell W6 _ _=W7 at C ⊢;rw[<-hlk];have b7:=VV hlk;have d7:=VV hlk.c;clear hlk u P cn fz gl il;go_wp2;go_ret;exact C.fin rfl (NW.1 (by omega)) (by omega) (by omega)
 ·skip;go_wp2_with fail;refine(fT R _ _ C.rd (by omega)).P ?_;rintro e l⟨t,rfl,ht,q2,ZL,hR,b⟩;replace C:=ae (C.ac b hR);clear b hR;iterate 4
   go_wp2_with fail;with_reducible first|refine(bq _ _).P ?_|refine(bS _ _ _).P ?_|refine(bC _ _).P ?_
   rintro e l⟨rfl,j⟩;replace C:=ae (C.aa j);clear j
  go_wp2_with (at_builtin;refine ie rfl _ _ rfl C [(1,t.data.toList,0),(7,[],0),(8,[],0),(9,[],0)] 4 (by simp[Act.eval]) (by simp[Act.eval]) rfl rfl (by simp) (eS (by omega) (by decide)) (by omega) ?_);intro ZP c1 s ZN C W u1;go_wp2;go_ret;exact C.fin rfl (NW.1 (by omega)) (by omega) (by omega)
def AY (R p:Nat)(at_:Int)(w:E)(hR:Rd w R p)(f:p+14<=30000)(b:0<=at_)(h1:at_+4<=10000):Calls Pg 81 #[.pointer (Q (T R 0 Y)),J I at_,J I 0] w λe g=>DI w R (p+14) 4 e g:=
 sB 0 4 14 4 14 (by omega) (by omega) (by omega) (by omega) (by omega) (λh=>absurd h (by omega)) (λh=>absurd h (by omega)) R p at_ w hR f b h1
def nr (d b f:Nat)(hd3:(d:Int)<=10)(hb:b<=44)(j:4<=b)(l:∀(R p:Nat) (at_:Int) (w:E),Rd w R p->p+f<=30000->0<=at_->at_+(b:Int)<=10000->Calls Pg 81 #[.pointer (Q (T R 0 Y)),J I at_,J I d] w λe g=>DI w R (p+f) b e g)
  (R p:Nat) (at_:Int) (w:E) (hR:Rd w R p) (m:p+(3*f+14)<=30000) (h:0<=at_) (i:at_+((3*b+2:Nat):Int)<=10000) :
  Calls Pg 81 #[.pointer (Q (T R 0 Y)),J I at_,J I ((d:Int)+1)] w λe g=>DI w R (p+(3*f+14)) (3*b+2) e g:=
 sB ((d:Int)+1) b f (3*b+2) (3*f+14) (by omega) (by omega) hb (by omega) (by omega) (λ_=>⟨p7 _,p7 _,j⟩) (λ_=>by rw[Int.add_sub_cancel];exact l) R p at_ w hR m h i
def VD (f b:Nat)(d:Int):Prop:=∀(R p:Nat) (at_:Int) (w:E),Rd w R p->p+f<=30000->0<=at_->at_+(b:Int)<=10000->Calls Pg 81 #[.pointer (Q (T R 0 Y)),J I at_,J I d] w λe g=>DI w R (p+f) b e g
def vd0:VD 14 4 ((0:Nat):Int):=λR p at_ w hR f b h1=>AY R p at_ w hR f b (by omega)
def vd1:VD 56 14 ((1:Nat):Int):=λR p at_ w hR hp b h1=>nr 0 4 14 (by omega) (by omega) (by omega) vd0 R p at_ w hR (by omega) b (by omega)
def vd2:VD 182 44 ((2:Nat):Int):=λR p at_ w hR hp b h1=>nr 1 14 56 (by omega) (by omega) (by omega) vd1 R p at_ w hR (by omega) b (by omega)
def vd3:VD 560 134 ((3:Nat):Int):=λR p at_ w hR hp b h1=>nr 2 44 182 (by omega) (by omega) (by omega) vd2 R p at_ w hR (by omega) b (by omega)
def DI.P{e:Ending}(h:DI w R q n e f)(r:q<=q')(hn:n<=b):DI w R q' b e f:=by obtain⟨L,g,c,h1,h2,m,o,l,p,j,i⟩:=h;exact⟨L,g,c,h1,h2,m,nX o hn,l,p,nX j r,i⟩
def wY (R p:Nat)(ZW:Int)(hz:ZW=0\/ZW=1)(w:E)(hR:Rd w R p)(hp:p<=29000):Calls Pg 81 #[.pointer (Q (T R 0 Y)),J I 0,J I (2+ZW)] w λe b=>DI w R (p+560) 134 e b:=by
 rcases hz with rfl|rfl;{exact(vd2 R p 0 w hR (by omega) (by omega) (by omega)).P λe b h=>h.P (by omega) (by omega)};{exact vd3 R p 0 w hR (by omega) (by omega) (by omega)}
def ST (w:E)(R rb:Nat)(W:E)(q:Nat):Prop:=Rd W R q/\zt R w W/\PB W rb (Z Y 0 0)/\R<A (B w)/\(A (B w))<=rb
def SC (w:E)(R rb:Nat)(W:E)(q g c:Nat)(L:List I3)(n:Nat):Prop:=ST w R rb W q/\IR W (rb+1) g c L/\(z L)<=n/\∀i∈L,i.2.1.length<=5000
def ST.rd (h:ST w R rb W q):Rd W R q:=h.1
def ST.lt (h:ST w R rb W q):rb<A (B W):=h.2.2.1.lt
def ST.low (h:ST w R rb W q)(hb:Below (rb+1) W W'):ST w R rb W' q:=by obtain⟨h1,h2,g,b,f⟩:=h;exact⟨h1.low hb (by omega),h2.then (hb.P (by omega)),g.aa hb (by omega),b,f⟩
def ST.aa (h:ST w R rb W q)(hb:Below (A (B W)) W W'):ST w R rb W' q:=h.low (hb.P h.lt)
def PB.ac{v:ZB}(h:PB w b v)(g:zt R w f)(hR:b≠R):PB f b v:=(g.p b h.lt hR).k h
def ST.ac (h:ST w R rb W q)(b:zt R W W')(hR:Rd W' R q'):ST w R rb W' q':=by obtain⟨h1,h2,i,f,g⟩:=h;exact⟨hR,h2.k b,i.ac b (by omega),f,g⟩
def ST.new (h:Rd w R q):ST w R (A (B w)) (w.alloc (N #[Z Y 0 0] 37)) q:=by have b:=(BS w).alloc ly (N #[Z Y 0 0] 37);exact⟨h.aa b ly,zt.l b,gM w _,h.lt,p7 _⟩
def SC.st{c:Nat}(h:SC w R rb W q g c L n):ST w R rb W q:=h.1
def SC.ir{c:Nat}(h:SC w R rb W q g c L n):IR W (rb+1) g c L:=h.2.1
def SC.len{c:Nat}(h:SC w R rb W q g c L n):z L<=n:=h.2.2.1
def SC.up{c:Nat}(h:SC w R rb W q g c L n)(b:n<=m):SC w R rb W q g c L m:=⟨h.1,h.2.1,nX h.2.2.1 b,h.2.2.2⟩
def SC.aa{c:Nat}(h:SC w R rb W q g c L n)(hb:Below (A (B W)) W W'):SC w R rb W' q g c L n:=
 ⟨h.1.aa hb,h.2.1.aa hb ly,h.2.2⟩
def SC.ac{c:Nat}(h:SC w R rb W q g c L n)(b:zt R W W')(hR:Rd W' R q'):SC w R rb W' q' g c L n:=
 ⟨h.1.ac b hR,h.2.1.ac b (by have:=h.1.2.2.2;omega),h.2.2⟩
def SC.di{c:Nat}(h:ST w R rb W q)(b:IR W' (A (B W)) g c L)(hn:z L<=n)(j:∀i∈L,i.2.1.length<=5000)(f:zt R W W')(hR:Rd W' R q'):SC w R rb W' q' g c L n:=
 ⟨h.ac f hR,aE b h.lt,hn,j⟩
def SC.app{c:Nat}(b:Array ZB)(h:SC w R rb W q g c L n)(l:IR W' (rb+1) g' c' (L++M))(m:(W.alloc (N b 102)).grownBy W' (Q g))(hn:n+z M<=n')(j:∀i∈M,i.2.1.length<=5000):SC w R rb W' q g' c' (L++M) n':=by
 have o:=h.1.lt;have f:=bg ((a8 (rb+1) W).alloc o (N b 102)) m (by simp;omega) (λk e=>by have:=h.2.1.lt;simp at e;omega);refine⟨h.1.low f,l,by rw[cM];have:=h.len;omega,λi hi=>?_⟩;rcases p8.1 hi with hi|hi;{exact h.2.2.2 i hi};{exact j i hi}
def IR.new (W:E)(b:Nat)(hb:b<=A (B W))(L:List I3)(f:Array ZB)(g:f.toList=i3L L)(n:Nat)(hn:n=z L)(hm:n<=100000):IR (W.alloc (N f 102)) b (A (B W)) n L:=by
 subst hn;have hz:f.size=z L*3:=by rw[<-jA,<-g,RC]
 refine⟨jA L,.inr ⟨A (B W),z L,f,rfl,hb,gM W _,p7 _,by unfold maxLen;omega,hz,?_⟩⟩;rw[g,NV (by rw[jA];omega)]
def SC.lit (h:ST w R rb W q)(L:List I3)(b:Array ZB)(j:b.toList=i3L L)(n:Nat)(hn:n=z L)(f:n<=100000)(g:∀i∈L,i.2.1.length<=5000):SC w R rb (W.alloc (N b 102)) q (A (B W)) n L n:=
 ⟨h.aa (br.alloc ly _),IR.new W (rb+1) h.lt L b j n hn f,by omega,g⟩
def SC.fin{c:Nat}(h:SC w R rb W q g c L n)(v:ZB):PB (W.setCell (T rb 0 Y) v) rb v/\IR (W.setCell (T rb 0 Y) v) (A (B w)) g c L/\(z L)<=n/\(∀i∈L,i.2.1.length<=5000)/\Rd (W.setCell (T rb 0 Y) v) R q/\zt R w (W.setCell (T rb 0 Y) v):=by obtain⟨⟨h1,h2,o,m,j⟩,f,b,l⟩:=h;have ZV:=(a8 (A (B w)) W).setCell (p:=(T rb 0 Y)) j v;exact⟨o.set v,aE (Ee f (by omega) v) (by omega),b,l,h1.low ZV m,h2.then ZV⟩
def DP (w:E)(R q lo n:Nat)(e:Ending)(w':E):Prop:=∃(L:List I3) (g c:Nat),e=ZI (.agg #[Z (Q (T g 0 Y)) (z L) c])/\IR w' (A (B w)) g c L/\lo<=z L/\(z L)<=n/\(∀i∈L,i.2.1.length<=5000)/\∃q':Nat,q'<=q/\Rd w' R q'/\zt R w w'
def gN{fn:Func}{p:Tmp}(h:fn.results=#[.cell p 37])(tmps:Array ZB)(w:E)(g:Nat)(v:ZB)(f:tmps.getD p undef=.pointer (Q (T g 0 Y)))(b:PB w g v):(results fn tmps).run Pg w=.ok (.agg #[v]) w:=
 results_cell_row h tmps w g 37 #[v] (0,0) _ f b underlying37 rfl wX
def cY (L:List I3)(i:Nat):Ins:=⟨(L.getD i (0,[],0)).1,⟨(L.getD i (0,[],0)).2.1.toArray⟩,(L.getD i (0,[],0)).2.2⟩
def AZ:∀(L:List I3) (i:Nat),i<z L->(i3L L)[i*3]?=Q (J I (cY L i).op)/\(i3L L)[i*3+1]?=Q (U (cY L i).s)/\(i3L L)[i*3+2]?=Q (J I (cY L i).n)
 |[],i,h=>by simp at h
 |x::L,0,_=>⟨rfl,rfl,rfl⟩
 |x::L,i+1,h=>by
  have g:=AZ L i (by simpa using h);have f:(i3V x).length=3:=rfl;have e:∀k,(i3L (x::L))[(i+1)*3+k]?=(i3L L)[i*3+k]?:=λk=>by show(i3V x++i3L L)[(i+1)*3+k]?=_;rw[KK (by rw[f];omega),f,show(i+1)*3+k - 3=i*3+k by omega]
  have b:=e 0;rw[QF,QF] at b;rw[b,e 1,e 2];exact g
def IR.at{c:Nat}(h:IR w b g c L):∀i,i<z L->AtIns w g 0 i (cY L i):=by intro i hi;obtain⟨f,h1,h2⟩:=AZ L i hi;have c0:=h.news _ _ f;have c1:=h.news _ _ h1;have c2:=h.news _ _ h2;rw[gK] at c0 c1 c2;exact⟨c0,c1,c2⟩
def GV (b:∀i∈L,i.2.1.length<=5000):∀i,i<z L->(cY L i).s.size<=maxLen:=by
 intro i hi;have h:=b L[i] (gz hi);have e:L.getD i (0,[],0)=L[i]:=by simp[hi]
 show(L.getD i (0,[],0)).2.1.toArray.size<=maxLen;rw[e,QG];unfold maxLen;omega
def wZ (n:Nat)(w:E)(hn:(n:Int)<=300):Calls Pg 83 #[J I n] w λe s=>∃(L:List I3) (g:Nat),e=ZI (Z (Q (T g 0 Y)) 7 7)/\IR s (A (B w)) g 7 L/\(z L)=7/\(∀i∈L,i.2.1.length<=5000)/\Below (A (B w)) w s:=by
 go_enter func83,ntmps83;go_wp2_with fail;refine(eP ⟨#[97,32]⟩ n _ (by show 2*n<=4000;omega) (by omega)).P ?_;rintro e Wx⟨t,rfl,r,l⟩;rw[l];have u:t.size<=5000:=nX r (by show 2*n<=5000;omega);clear r l;go_wp2_with fail;refine(bC t _).P ?_;rintro e W1⟨rfl,b⟩;have m:=ae (b);clear b;go_wp2_with fail;refine(bq 7 _).P ?_;rintro e W2⟨rfl,b⟩;have o:=ae (m.k (b.P m.size));clear b;go_wp2_with fail;refine(bS 5 0 _).P ?_;rintro e W3⟨rfl,b⟩;have h:=ae (o.k (b.P o.size));clear b;go_wp2_with fail;refine(bq 13 _).P ?_;rintro e W4⟨rfl,b⟩;have p:=ae (h.k (b.P h.size));clear b;go_wp2_with fail;refine(bq 9 _).P ?_;rintro e W5⟨rfl,b⟩;have j:=ae (p.k (b.P p.size));clear b;go_wp2_with fail;refine(bS 4 2 _).P ?_;rintro e W6⟨rfl,b⟩;have q:=ae (j.k (b.P j.size));clear b;go_wp2_with fail;refine(bS 10 1 _).P ?_;rintro e x⟨rfl,b⟩;have f:=ae (q.k (b.P q.size));clear b;go_wp2;go_ret;refine⟨[(1,t.data.toList,0),(7,[],0),(5,[],0),(13,[],0),(9,[],0),(4,[],2),(10,[],1)],_,rfl,IR.new x _ f.size _ _ rfl _ rfl (by omega),rfl,?_,f.alloc f.size _⟩;intro i hi;simp only[vG,nj,QW] at hi;rcases hi with rfl|rfl|rfl|rfl|rfl|rfl|rfl;{show (z t.data.toList)<=5000;rw[RC];exact u};all_goals exact DW _
def fZ (R p:Nat)(w:E)(hR:Rd w R p)(hp:p<=20000):Calls Pg 55 #[.pointer (Q (T R 0 Y))] w λe w'=>DP w R (p+600) 1 140 e w':=by
 have ZT:=ae (ST.new hR);clear hR;go_enter func55,ntmps55;go_wp2_with fail;generalize World.alloc w _=W0 at ZT ⊢;refine(ay R _ 2 _ ZT.rd (by omega) (by omega) (by omega)).P ?_;rintro e W1⟨d,rfl,S,d1,hR,h⟩;have K:=ae (ZT.ac h hR);clear h hR ZT;go_wp2_with fail;refine(wY R _ d (by omega) _ K.rd (by omega)).P ?_;rintro e W2⟨L,g,c,rfl,l,aq,hn,ZV,ZO,hq2,hR,h⟩;have C:Hid (SC w R (A (B w)) W2 ZO g c L 134):=SC.di K l hn ZV h hR;clear h hR l ZV aq hn K;go_wp2_with fail;refine(ay R _ 24 _ C.st.rd (by omega) (by omega) (by omega)).P ?_;rintro e b⟨ZW,rfl,z0,z1,hR,h⟩;replace C:=ae (C.ac h hR);clear h hR;go_upto_if 13 with fail;go_cut [3] (λm j=>∃(L:List I3) (g c q:Nat),m=Z (Q (T g 0 Y)) (z L) c/\q<=ZO+2/\Hid (SC w R (A (B w)) j q g c L 135));case first =>
  rcases(show ZW=0\/ZW=1\/ZW=2\/3<=ZW by omega) with rfl|rfl|rfl|h3
  ·iterate 1
    go_wp2_with fail;with_reducible first|refine(bq _ _).P ?_|refine(bS _ _ _).P ?_|refine(bC _ _).P ?_
    rintro e b⟨rfl,f⟩;replace C:=ae (C.aa f);clear f
   have X:=ae (C.aa ((BS b).alloc ly (N #[J I 14,U ⟨#[]⟩,J I 0] 102)));have ln:=C.len;go_wp2_with (at_builtin;refine gL rfl (.tmp 14) (.tmp 16) rfl (A (B w)+1) g c L (by simp[Act.eval]) X.ir (T (A (B b)) 0 Y) 1 1 [(14,[],0)] (by simp[Act.eval]) rfl (by simp) (eQ b #[J I 14,U ⟨#[]⟩,J I 0] _) (by simp only[vF,IT];omega) (by have:=C.st.lt;simp;omega) ?_;intro D c1 O l s);go_meet;exact⟨_,D,c1,_,by simp,by omega,(C.app (n':=135) _ l s (by show 134+1<=135;omega) (λi hi=>by rw[j4.1 hi];exact DW _))⟩
  ·iterate 1
    go_wp2_with fail;with_reducible first|refine(bq _ _).P ?_|refine(bS _ _ _).P ?_|refine(bC _ _).P ?_
    rintro e b⟨rfl,f⟩;replace C:=ae (C.aa f);clear f
   have X:=ae (C.aa ((BS b).alloc ly (N #[J I 10,U ⟨#[]⟩,J I 0] 102)));have ln:=C.len;go_wp2_with (at_builtin;refine gL rfl (.tmp 20) (.tmp 22) rfl (A (B w)+1) g c L (by simp[Act.eval]) X.ir (T (A (B b)) 0 Y) 1 1 [(10,[],0)] (by simp[Act.eval]) rfl (by simp) (eQ b #[J I 10,U ⟨#[]⟩,J I 0] _) (by simp only[vF,IT];omega) (by have:=C.st.lt;simp;omega) ?_;intro D c1 O l s);go_meet;exact⟨_,D,c1,_,by simp,by omega,(C.app (n':=135) _ l s (by show 134+1<=135;omega) (λi hi=>by rw[j4.1 hi];exact DW _))⟩
  ·go_wp2_with fail;refine(ay R _ 15 _ C.st.rd (by omega) (by omega) (by omega)).P ?_;rintro e b⟨y,rfl,W,ZM,hR,h⟩;replace C:=ae (C.ac h hR);clear h hR;iterate 1
    go_wp2_with fail;with_reducible first|refine(bq _ _).P ?_|refine(bS _ _ _).P ?_|refine(bC _ _).P ?_
    rintro e b⟨rfl,f⟩;replace C:=ae (C.aa f);clear f
   have X:=ae (C.aa ((BS b).alloc ly (N #[J I (1+y),U ⟨#[]⟩,J I 0] 102)));have ln:=C.len;go_wp2_with (at_builtin;refine gL rfl (.tmp 26) (.tmp 31) rfl (A (B w)+1) g c L (by simp[Act.eval]) X.ir (T (A (B b)) 0 Y) 1 1 [((1+y),[],0)] (by simp[Act.eval]) rfl (by simp) (eQ b #[J I (1+y),U ⟨#[]⟩,J I 0] _) (by simp only[vF,IT];omega) (by have:=C.st.lt;simp;omega) ?_;intro D c1 O l s);go_meet;exact⟨_,D,c1,_,by simp,by omega,(C.app (n':=135) _ l s (by show 134+1<=135;omega) (λi hi=>by rw[j4.1 hi];exact DW _))⟩
  ·have n0:(ZW == 0)=ZA:=by simp;omega
   have n1:(ZW == 1)=ZA:=by simp;omega
   have n2:(ZW == 2)=ZA:=by simp;omega
   go_wp2;go_meet;exact⟨L,g,c,_,rfl,by omega,C.up (by omega)⟩
 case rest =>
 clear C;obtain⟨G,g0,c0,q3,rfl,hq3,C⟩:=hcut;iterate 1
  go_wp2_with fail;with_reducible first|refine(bq _ _).P ?_|refine(bS _ _ _).P ?_|refine(bC _ _).P ?_
  rintro e b⟨rfl,f⟩;replace C:=ae (C.aa f);clear f
 have X:=ae (C.aa ((BS b).alloc ly (N #[J I 15,U ⟨#[]⟩,J I 0] 102)));have ln:=C.len;go_upto_if 38 with (at_builtin;refine gL rfl (.tmp 33) (.tmp 35) rfl (A (B w)+1) g0 c0 G (by simp[Act.eval]) X.ir (T (A (B b)) 0 Y) 1 1 [(15,[],0)] (by simp[Act.eval]) rfl (by simp) (eQ b #[J I 15,U ⟨#[]⟩,J I 0] _) (by simp only[vF,IT];omega) (by have:=C.st.lt;simp;omega) ?_;intro g c O l s);replace C:=ae (C.app (n':=136) _ l s (by show 135+1<=136;omega) (λi hi=>by rw[j4.1 hi];exact DW _));clear l s X ln;generalize hL:G++[(15,[],0)]=L at C;have hn1:z G+1=z L:=by rw[<-hL,cM];rfl
 rw[hn1];clear hL hn1;go_cut [3] (λm j=>∃(L:List I3) (g c q:Nat),m=Z (Q (T g 0 Y)) (z L) c/\q<=q3/\Hid (SC w R (A (B w)) j q g c L 140));case first =>
  by_cases hz:ZW=3
  ·subst hz;iterate 4
    go_wp2_with fail;with_reducible first|refine(bq _ _).P ?_|refine(bS _ _ _).P ?_|refine(bC _ _).P ?_
    rintro e b⟨rfl,f⟩;replace C:=ae (C.aa f);clear f
   have ZU:=ae (SC.lit C.st [(1,[97,98,99,100,101,102,103,104],0),(7,[],0),(2,[],0),(10,[],1)] #[J I 1,U ⟨#[97,98,99,100,101,102,103,104]⟩,J I 0,J I 7,U ⟨#[]⟩,J I 0,J I 2,U ⟨#[]⟩,J I 0,J I 10,U ⟨#[]⟩,J I 1] rfl 4 rfl (by omega) (by decide));go_wp2;go_meet;exact⟨_,_,_,_,rfl,by omega,ZU.up (by omega)⟩
  {go_wp2;go_meet;exact⟨L,g,c,_,rfl,by omega,C.up (by omega)⟩}
 case rest =>
 clear C;obtain⟨L,g,c,q4,rfl,hq4,C⟩:=hcut;go_upto_if 45 with fail;go_cut [3] (λm j=>∃(L:List I3) (g c q:Nat),m=Z (Q (T g 0 Y)) (z L) c/\q<=q4+1/\Hid (SC w R (A (B w)) j q g c L 140));case first =>
  by_cases hz:ZW=4
  ·subst hz;go_wp2_with fail;refine(dH R _ _ C.st.rd (by omega)).P ?_;rintro e b⟨t,rfl,ZS,hR,h⟩;replace C:=ae (C.ac h hR);clear h hR;iterate 4
    go_wp2_with fail;with_reducible first|refine(bq _ _).P ?_|refine(bS _ _ _).P ?_|refine(bC _ _).P ?_
    rintro e b⟨rfl,f⟩;replace C:=ae (C.aa f);clear f
   have ZU:=ae (SC.lit C.st [(1,t.data.toList,0),(13,[],0),(9,[],0),(10,[],0)] #[J I 1,U t,J I 0,J I 13,U ⟨#[]⟩,J I 0,J I 9,U ⟨#[]⟩,J I 0,J I 10,U ⟨#[]⟩,J I 0] rfl 4 rfl (by omega) (eS (by omega) (by decide)));go_wp2;go_meet;exact⟨_,_,_,_,rfl,by omega,ZU.up (by omega)⟩
  {go_wp2;go_meet;exact⟨L,g,c,_,rfl,by omega,C.up (by omega)⟩}
 case rest =>
 clear C;obtain⟨L,g,c,q5,rfl,hq5,C⟩:=hcut;go_upto_region 14 with fail;go_cut [59] (λsb j=>∃(u:Bool) (q:Nat),sb=ZF u/\q<=q5+1/\Hid (SC w R (A (B w)) j q g c L 140));case first =>
  by_cases hz:ZW=7;{subst hz;go_wp2_with fail;refine(ay R _ 3 _ C.st.rd (by omega) (by omega) (by omega)).P ?_;rintro e b⟨x,rfl,x0,x1,hR,h⟩;replace C:=ae (C.ac h hR);clear h hR;go_wp2;go_meet;exact⟨_,_,rfl,by omega,C⟩};{go_wp2;go_meet;exact⟨_,_,rfl,by omega,C⟩}
 case rest =>
 clear C;obtain⟨u,bt,rfl,hq5b,C⟩:=hcut;go_upto_if 59 with fail;go_cut [3] (λm j=>∃(L:List I3) (g c q:Nat),m=Z (Q (T g 0 Y)) (z L) c/\q<=bt+1/\Hid (SC w R (A (B w)) j q g c L 140));case first =>
  cases u with
  |false =>go_wp2;go_meet;exact⟨L,g,c,_,rfl,by omega,C⟩
  |true =>
   go_wp2_with fail;refine(ay R _ 2 _ C.st.rd (by omega) (by omega) (by omega)).P ?_;rintro e b⟨y,rfl,W,ZM,hR,h⟩;replace C:=ae (C.ac h hR);clear h hR;go_wp2_with fail;obtain⟨m0,r⟩:∃m0:Nat,499+y=(m0:Int):=⟨(499+y).toNat,by omega⟩
   rw[r];refine(eP ⟨#[120]⟩ m0 _ (by show 1*m0<=4000;omega) (by omega)).P ?_;rintro e Wm⟨t,rfl,ZS,ZN⟩;rw[ZN];have ZL:t.size<=5000:=nX ZS (by show 1*m0<=5000;omega);clear ZS r ZN;iterate 6
    go_wp2_with fail;with_reducible first|refine(bq _ _).P ?_|refine(bS _ _ _).P ?_|refine(bC _ _).P ?_
    rintro e b⟨rfl,f⟩;replace C:=ae (C.aa f);clear f
   have ZU:=ae (SC.lit C.st [(1,t.data.toList,0),(7,[],0),(11,[],5),(4,[],1),(10,[],1),(9,[],0)] #[J I 1,U t,J I 0,J I 7,U ⟨#[]⟩,J I 0,J I 11,U ⟨#[]⟩,J I 5,J I 4,U ⟨#[]⟩,J I 1,J I 10,U ⟨#[]⟩,J I 1,J I 9,U ⟨#[]⟩,J I 0] rfl 6 rfl (by omega) (eS ZL (by decide)));go_wp2;go_meet;exact⟨_,_,_,_,rfl,by omega,ZU.up (by omega)⟩
 case rest =>
 clear C;obtain⟨L,g,c,q6,rfl,hq6,C⟩:=hcut;go_upto_region 16 with fail;go_cut [77] (λsb j=>∃(u:Bool) (q:Nat),sb=ZF u/\q<=q6+1/\Hid (SC w R (A (B w)) j q g c L 140));case first =>
  by_cases hz:ZW=6;{subst hz;go_wp2_with fail;refine(ay R _ 3 _ C.st.rd (by omega) (by omega) (by omega)).P ?_;rintro e b⟨x,rfl,x0,x1,hR,h⟩;replace C:=ae (C.ac h hR);clear h hR;go_wp2;go_meet;exact⟨_,_,rfl,by omega,C⟩};{go_wp2;go_meet;exact⟨_,_,rfl,by omega,C⟩}
 case rest =>
 clear C;obtain⟨u,ex,rfl,hq6b,C⟩:=hcut;go_upto_if 77 with fail;go_cut [3] (λm j=>∃(L:List I3) (g c q:Nat),m=Z (Q (T g 0 Y)) (z L) c/\q<=ex+1/\Hid (SC w R (A (B w)) j q g c L 140));case first =>
  cases u with
  |false =>go_wp2;go_meet;exact⟨L,g,c,_,rfl,by omega,C⟩
  |true =>
   go_wp2_with fail;refine(ay R _ 3 _ C.st.rd (by omega) (by omega) (by omega)).P ?_;rintro e b⟨y,rfl,W,ZM,hR,h⟩;replace C:=ae (C.ac h hR);clear h hR;go_wp2_with fail;obtain⟨m0,r⟩:∃m0:Nat,200+y - 1=(m0:Int):=⟨(200+y - 1).toNat,by omega⟩
   rw[r];refine(wZ m0 _ (by omega)).P ?_;rintro e W8⟨LW,gW,rfl,l,lq,ZV,f⟩;have C8:=ae (SC.di C.st l (n:=140) (by omega) ZV (zt.l f) (C.st.rd.aa f ly));clear l ZV f r;go_wp2;go_meet;exact⟨LW,gW,7,_,by rw[lq],by omega,C8⟩
 case rest =>
 clear C;obtain⟨L,g,c,q7,rfl,hq7,C⟩:=hcut;go_upto_if 84 with fail;go_cut [3] (λm j=>∃(L:List I3) (g c q:Nat),m=Z (Q (T g 0 Y)) (z L) c/\q<=q7/\Hid (SC w R (A (B w)) j q g c L 140));case first =>
  by_cases hz:ZW=5
  ·subst hz;iterate 2
    go_wp2_with fail;with_reducible first|refine(bq _ _).P ?_|refine(bS _ _ _).P ?_|refine(bC _ _).P ?_
    rintro e b⟨rfl,f⟩;replace C:=ae (C.aa f);clear f
   have ZU:=ae (SC.lit C.st [(1,[115],0),(10,[],0)] #[J I 1,U ⟨#[115]⟩,J I 0,J I 10,U ⟨#[]⟩,J I 0] rfl 2 rfl (by omega) (by decide));go_wp2;go_meet;exact⟨_,_,_,_,rfl,by omega,ZU.up (by omega)⟩
  {go_wp2;go_meet;exact⟨L,g,c,_,rfl,by omega,C.up (by omega)⟩}
 case rest =>
 clear C;obtain⟨L,g,c,V,rfl,hq8,C⟩:=hcut;have ln:=C.len;have ge:=C.ir.lt;go_wp2_with fail;refine(gy g 0 (z L) c (cY L) _ (by omega) ge.2 (λi hi=>C.ir.at i (by omega)) (λi hi=>GV C.2.2.2 i (by omega))).P ?_;rintro e Wv⟨rfl,f⟩;have P:=ae (C.aa f);clear f;cases hv:valid (cY L) (z L) with
 |true =>
  have vp:=(bJ hv).2.1;clear hv;have o:=P.st.2.2.1;have zl:=o.lt;have S:=o.c0;have d1:=o.fz 0;have fin:=ae (P.fin (Z (Q (T g 0 Y)) (z L) c));clear o;go_wp2;obtain⟨f1,M,f3,H,ZQ,ZR⟩:=fin.i;try simp only[Exit.inBlock,Exit.then]
  refine bp (gN rfl _ _ (A (B w)) _ rfl f1) rfl ?_;exact⟨L,g,c,rfl,M,by omega,by omega,H,V,by omega,ZQ,ZR⟩
 |false =>
  clear hv;replace C:=P;iterate 2
   go_wp2_with fail;with_reducible first|refine(bq _ _).P ?_|refine(bS _ _ _).P ?_|refine(bC _ _).P ?_
   rintro e b⟨rfl,f⟩;replace C:=ae (C.aa f);clear f
  have ZP:=ae (SC.lit C.st [(1,[120],0),(15,[],0)] #[J I 1,U ⟨#[120]⟩,J I 0,J I 15,U ⟨#[]⟩,J I 0] rfl 2 rfl (by omega) (by decide));have o:=ZP.st.2.2.1;have zl:=o.lt;have S:=o.c0;have d1:=o.fz 0;have fin:=ae (ZP.fin (Z (Q (T (A (B b)) 0 Y)) 2 2));clear o;go_wp2;obtain⟨f1,M,f3,H,ZQ,ZR⟩:=fin.i;try simp only[Exit.inBlock,Exit.then]
  refine bp (gN rfl _ _ (A (B w)) _ rfl f1) rfl ?_;exact⟨[(1,[120],0),(15,[],0)],A (B b),2,rfl,M,by simp,by simp,H,V,by omega,ZQ,ZR⟩
def uw:∀(L:List I3) (i:Nat) (y:I3) (j:Nat) (v:ZB),j<3->i<z L->i3V y=(i3V (L.getD i (0,[],0))).set j v->i3L (L.set i y)=(i3L L).set (i*3+j) v
 |[],i,y,j,v,_,h,_=>by simp at h
 |x::L,0,y,j,v,hj,_,e=>by show i3V y++i3L L=(i3V x++i3L L).set (0*3+j) v;rw[WW _ _ (by show 0*3+j<3;omega),UR,I5];rw[show i3V y=(i3V x).set j v from e]
 |x::L,i+1,y,j,v,hj,h,e=>by have f:=uw L i y j v hj (by simpa using h) e;have b:(i3V x).length=3:=rfl;show i3V x++i3L (L.set i y)=(i3V x++i3L L).set ((i+1)*3+j) v;rw[f,T9 _ _ (by rw[b];omega),b,show(i+1)*3+j - 3=i*3+j by omega]
def IR.set3{c:Nat}(h:IR w b g c L)(hi:i<z L)(o:j<3)(y:I3)(v:ZB)(e:i3V y=(i3V (L.getD i (0,[],0))).set j v):IR (w.setCell (T g (i*3+j) Y) v) b g c (L.set i y):=by
 unfold IR;rw[NJ,uw L i y j v o hi e];refine⟨by rw[NJ];exact h.1,?_⟩;rcases h.2 with⟨f,h0⟩|⟨g',j_,l,f,hb,m,h1,h2,p,n⟩
 {simp at f};{simp only[IS,ND,RP] at f;obtain⟨⟨rfl,-⟩,-,rfl⟩:=f;refine .inr ⟨g,c,l.setIfInBounds (i*3+j) v,rfl,hb,?_,h1,h2,by simpa using p,?_⟩;{simp[World.setCell,NR,m]};{rw[R8,YV,n]}}
def IR.take{c:Nat}(h:IR w b g c L)(k:Nat)(i:k<=z L):IR w b g c (L.take k):=by
 have e:i3L (L.take k)=(i3L L).take (k*3):=by
  have h1:i3L L=i3L (L.take k)++i3L (L.drop k):=by rw[<-rB,QO]
  have h2:(i3L (L.take k)).length=k*3:=by rw[jA,OD,QM i]
  rw[h1,<-h2,List.take_left'];rfl
 have m:(L.take k).length=k:=by rw[OD,QM i]
 unfold IR;rw[e,m];refine⟨by rw[OD,h.1,QM (by omega)],?_⟩;rcases h.2 with⟨f,h0⟩|⟨g',j_,j,f,hb,l,h1,h2,o,n⟩
 {simp at f};{simp only[IS,ND,RP] at f;obtain⟨⟨rfl,-⟩,-,rfl⟩:=f;refine .inr ⟨g,c,j,rfl,hb,l,by omega,h2,o,?_⟩;rw[<-n,List.take_take,QM (by omega)]}
def IR.fz{f c:Nat}(h:IR w f g c L)(j:Nat):w.frozen? (T g j Y)=ZA:=by
 rcases h.2 with⟨b,_⟩|⟨g',j_,cur,b,_,i,_⟩
 {simp at b};{simp only[IS,ND,RP] at b;obtain⟨⟨rfl,-⟩,-,rfl⟩:=b;exact YD i _}
def SC.set3{c:Nat}(h:SC w R rb W q g c L n)(hi:i<z L)(l:j<3)(y:I3)(v:ZB)(e:i3V y=(i3V (L.getD i (0,[],0))).set j v)(f:y.2.1.length<=5000):SC w R rb (W.setCell (T g (i*3+j) Y) v) q g c (L.set i y) n:=by
 have ZV:=(a8 (rb+1) W).setCell (p:=(T g (i*3+j) Y)) h.ir.lt.1 v;refine⟨h.1.low ZV,h.ir.set3 hi l y v e,by rw[NJ];exact h.len,λx b=>?_⟩;rcases OR b with h1|h1;{exact h.2.2.2 x h1};{rw[h1];exact f}
def SC.take{c:Nat}(h:SC w R rb W q g c L n)(k:Nat)(b:k<=z L):SC w R rb W q g c (L.take k) n:=
 ⟨h.1,h.ir.take k b,by rw[OD];have:=h.len;omega,λi hi=>h.2.2.2 i (QX hi)⟩
def SC.app0{c:Nat}(h:SC w R rb W q g c L n)(j:IR W' (rb+1) g' c' (L++M))(l:W.grownBy W' (Q g))(hn:z L+z M<=n')(f:∀i∈M,i.2.1.length<=5000):SC w R rb W' q g' c' (L++M) n':=by
 have hl:=h.1.lt;have b:=bg (a8 (rb+1) W) l (by omega) (λk e=>by have:=h.2.1.lt;simp at e;omega);refine⟨h.1.low b,j,by rw[cM];omega,λi hi=>?_⟩;rcases p8.1 hi with hi|hi;{exact h.2.2.2 i hi};{exact f i hi}
def SC.P{c:Nat}(h:SC w R rb W q g c L n)(hn:z L<=b):SC w R rb W q g c L b:=⟨h.1,h.2.1,hn,h.2.2.2⟩
def SC.H{c:Nat}(h:SC w R rb W q g c L n)(i:Nat)(hi:i<z L):(L.getD i (0,[],0)).2.1.length<=5000:=by
 have e:L.getD i (0,[],0)=L[i]:=by simp[hi]
 rw[e];exact h.2.2.2 _ (gz hi)
def sC (h:Rd w R q)(v:ZB):SC w R (A (B w)+1) (((w.alloc (N #[v] 37)).alloc (N #[Z Y 0 0] 37)).alloc (N #[] 102)) q (A (B w)+2) 0 [] 0:=by
 have f:=(BS w).alloc ly (N #[v] 37);have b:=f.alloc f.size (N #[Z Y 0 0] 37);have g:=b.alloc b.size (N #[] 102);have hz:((w.alloc (N #[v] 37)).alloc (N #[Z Y 0 0] 37)).heap.size=A (B w)+2:=by simp
 have ZS:=IR.lit ((w.alloc (N #[v] 37)).alloc (N #[Z Y 0 0] 37));rw[hz] at ZS;refine⟨⟨h.aa g ly,zt.l g,?_,h.lt,by omega⟩,ZS,p7 _,λi hi=>by cases hi⟩;show _=_;rw[UK _ _ (by simp)];exact SL w _ _
