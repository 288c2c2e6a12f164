import Derived.Test.YtcnilonhfpimnaaGreatDoorFB
import Derived.Deep.DeepCutAuto
set_option linter.all false
set_option maxRecDepth 100000
set_option maxHeartbeats 8000000
open Go renaming Addr.mk->T,Value.slice->Y,Value.string->U,Value.int->J,Value.bool->ZF,Obj.cells->N,IntKind.i64->I,World->E,Value->ZB,Ending.returned->ZI,World.heap->B,World.setCell->ZU,Proofs.Tryz.prog->Pg,Calls->Qw
open Option renaming none->Z,some->Q
open Bool renaming false->ZA
open Array renaming size->A
open List renaming length->z
namespace Go.Proofs.YtcnilonhfpimnaaGreatDoor.Vp
open Tryz RowKit
variable {w W W':E}{R q rb g n b q' m f g' c' n' i j:Nat}{L M:List I3}
def eS{t:F_}{n:Int}(b:t.size<=5000)(hM:∀i∈M,i.2.1.length<=5000):∀i∈(1,t.data.toList,n)::M,i.2.1.length<=5000:=by
 intro i hi;rcases vG.1 hi with rfl|hi;{show (z t.data.toList)<=5000;rw[Q9];exact b};{exact hM i hi}
structure VS (w:E)(R:Nat)(W:E)(q g c:Nat)(L:List I3)(n:Nat):Prop where
 rd:Rd W R q
 o:zt R w W
 ir:IR W (A (B w)) g c L
 tx:∀i∈L,i.2.1.length<=5000
 lo:R<A (B w)
 le:z L<=n
section
variable {w W W':E}{R q q' g c g' c' n:Nat}{L M:List I3}
def VS.ac (h:VS w R W q g c L n)(b:zt R W W')(hR:Rd W' R q'):VS w R W' q' g c L n:=⟨hR,h.o.k b,h.ir.ac b h.lo,h.tx,h.lo,h.le⟩
def VS.aa (h:VS w R W q g c L n)(b:Below (A (B W)) W W'):VS w R W' q g c L n:=h.ac (zt.l b) (h.rd.aa b ly)
def VS.low (h:VS w R W q g c L n)(b:Below (A (B w)) W W')(f:IR W' (A (B w)) g' c' M)(hM:∀i∈M,i.2.1.length<=5000):VS w R W' q g' c' M (z M):=⟨h.rd.low b h.lo,h.o.then b,f,hM,h.lo,p7 _⟩
def VS.join (h:VS w R W q g c L n)(f:IR W' (A (B w)) g' c' (L++M))(b:W.grownBy W' (Q g))(hM:∀i∈M,i.2.1.length<=5000):VS w R W' q g' c' (L++M) (L++M).length:=
 h.low (bg (a8 (A (B w)) W) b h.o.size (λk e=>by have:=h.ir.lt;simp at e;omega)) f λi hi=>by
  rcases p8.1 hi with hi|hi
  ·exact h.tx i hi
  ·exact hM i hi
def VS.add (cs:Array ZB)(h:VS w R W q g c L n)(f:IR W' (A (B w)) g' c' (L++M))(b:(W.alloc (N cs 102)).grownBy W' (Q g))(hM:∀i∈M,i.2.1.length<=5000):VS w R W' q g' c' (L++M) (L++M).length:=
 (h.aa (br.alloc ly _)).join f b hM
def VS.fin{ZO ZQ:Nat}(h:VS w R W q g c L n)(f:m=z L)(b:L≠[])(hn:z L<=ZQ)(i:q<=ZO):DI w R ZO ZQ (ZI (Y (Q (T g 0 Z)) m c)) W:=
 ⟨L,g,c,by rw[f],h.ir,b,hn,h.tx,q,i,h.rd,h.o⟩
end
section
variable {ops:Array Oper}{rest:List Oper}{o:Oper}{a:Act}{ZO:Exit->Act->E->Prop}{w W W':E}{R q g c n:Nat}{L M:List I3}
def qg (ZX:o.guard=Z)(s x:Operand)(G:o.op=.call { callee:=.builtin .append,args:=#[s,x],argTypes:=#[35,35] })(C:VS w R W q g c L n)(ZV:Below (A (B W)) W W')(r:Addr)(m d:Nat)(H:a.eval s=Y (Q (T g 0 Z)) (z L) c)(D:a.eval x=Y (Q r) m d)(t:m=z M)(y:M≠[])(f:∀j u,(i3L M)[j]?=Q u->W'.cell? (r.add j)=Q u)(hM:∀i∈M,i.2.1.length<=5000)(hlen:z L+m<=100000)
  (h:∀g' c' b l,Hid (VS w R l q g' c' b (z b))->z b<=z L+m->z L+m<=z b->wpList Pg ops ZO rest (a.put o.dst (Y (Q (T g' 0 Z)) (z b) c')) l):wpList Pg ops ZO (o::rest) a W':=by
 have p:=C.aa ZV;refine gL ZX s x G (A (B w)) g c L H p.ir r m d M D t y f (by omega) p.o.size ?_;intro g' c' l ZW ZT;exact h g' c' (L++M) l (p.join ZW ZT hM) (by rw[cM,t];exact p7 _) (by rw[cM,t];exact p7 _)
def ie (l:o.guard=Z)(s x:Operand)(ZX:o.op=.call { callee:=.builtin .append,args:=#[s,x],argTypes:=#[35,35] })(C:VS w R W q g c L n)(M:List I3)(m:Nat){j:Array ZB}(ZV:a.eval s=Y (Q (T g 0 Z)) (z L) c)(u:a.eval x=Y (Q (T (A (B W)) 0 Z)) m m)(t:j.toList=i3L M)(y:m=z M)(p:M≠[])(hM:∀i∈M,i.2.1.length<=5000)(f:z L+m<=100000)
  (h:∀g' c' b r,Hid (VS w R r q g' c' b (z b))->z b<=z L+m->z L+m<=z b->wpList Pg ops ZO rest (a.put o.dst (Y (Q (T g' 0 Z)) (z b) c')) r):wpList Pg ops ZO (o::rest) a (W.alloc (N j 102)):=
 qg l s x ZX C (br.alloc ly _) _ m m ZV u y p (t ▸ eQ W j _) hM f h
end
def sB (s:Int)(P nc ZW W:Nat)(hd3:s<=11)(hd0:0<=s)(hb:P<=44)(hB4:4<=ZW)(hC14:14<=W)(ex:0<s->3*P+2<=ZW/\3*nc+14<=W/\4<=P)(ZM:0<s->∀(R p:Nat) (at_:Int) (w:E),Rd w R p->p+nc<=30000->0<=at_->at_+(P:Int)<=10000->Qw Pg 81 #[.pointer (Q (T R 0 Z)),J I at_,J I (s - 1)] w λe w'=>DI w R (p+nc) P e w')
  (R p:Nat) (at_:Int) (w:E) (hR:Rd w R p) (hp:p+W<=30000) (ha0:0<=at_) (ha1:at_+(ZW:Int)<=10000) :
  Qw Pg 81 #[.pointer (Q (T R 0 Z)),J I at_,J I s] w λe w'=>DI w R (p+W) ZW e w':=by
 have V:=ae ZM;have A0:=(BS w).alloc ly (N #[] 102);have C:Hid (VS w R (w.alloc (N #[] 102)) p (A (B w)) 0 [] 0):=⟨hR.aa A0 ly,zt.l A0,IR.lit w,λi hi=>(by cases hi),hR.lt,p7 _⟩
 clear A0 hR ZM;go_enter func81,ntmps81;go_wp2_with fail;generalize World.alloc w _=W0 at C ⊢;refine(ay R _ 12 _ C.rd (by omega) (by omega) (by omega)).P ?_;rintro e l⟨ZX,rfl,z0,z1,hR,b⟩;replace C:=ae (C.ac b hR);clear b hR;go_upto_region 3 with fail;go_cut [19] (λsb wx=>∃ZS:Bool,sb=ZF ZS/\(ZS=true->6<ZX)/\(ZS=ZA->6<ZX->0<s)/\Hid (VS w R wx (p+1) (A (B w)) 0 [] 0));case first =>
  by_cases h2:s<=0;{by_cases h3:6<ZX;{go_wp2;go_meet;exact⟨true,rfl,λ_=>h3,(λh=>by cases h),C.i⟩};{go_wp2;go_meet;exact⟨ZA,rfl,(λh=>by cases h),λ_ h=>absurd h (by omega),C⟩}};{go_wp2;go_meet;exact⟨ZA,rfl,(λh=>by cases h),λ_ _=>by omega,C.i⟩}
 case rest =>
 clear C;obtain⟨ZS,rfl,aq,X,C⟩:=hcut;go_upto_if 19 with fail;go_cut [7,8] (λso sk wx=>∃(g c q:Nat) (L:List I3) (k:Int),so=Y (Q (T g 0 Z)) (z L) c/\sk=J I k/\0<=k/\k<12/\(6<k->0<s)/\q<=p+1/\Hid (VS w R wx q g c L 0));case first =>
  cases ZS with
  |true =>
   have h2:=aq rfl;have G:IntKind.i64.wrap (ZX - 6)=ZX - 6:=by rw[nL];omega
   go_wp2;go_meet;exact⟨_,_,_,[],_,rfl,rfl,by omega,by omega,λh=>by omega,p7 _,C⟩
  |false =>have ZL:=ae (X rfl);go_wp2;go_meet;exact⟨_,_,_,[],_,rfl,rfl,by omega,by omega,ZL,p7 _,C⟩
 case rest =>
 clear C;obtain⟨g,c,q,L,k,rfl,rfl,hk0,hk1,fd,hq,C⟩:=hcut;have hL0:=C.le;rcases(show(k=0\/k=1)\/(k=2\/k=3\/k=4\/k=6)\/k=5\/(k=7\/k=8\/k=9\/k=10)\/k=11 by omega) with ZQ|ZQ|rfl|ZQ|rfl
 ·rcases ZQ with rfl|rfl;all_goals
   go_wp2_with fail;refine(fT R _ _ C.rd (by omega)).P ?_;rintro e l⟨t,rfl,ht,q2,bt,hR,b⟩;replace C:=ae (C.ac b hR);clear b hR;go_wp2_with fail;with_reducible first|refine(bq _ _).P ?_|refine(bS _ _ _).P ?_|refine(bC _ _).P ?_
   rintro e l⟨rfl,j⟩;replace C:=ae (C.aa j);clear j;go_wp2_with (at_builtin;refine ie rfl _ _ rfl C [(1,t.data.toList,0)] 1 (by simp[Act.eval]) (by simp[Act.eval]) rfl rfl (by simp) (eS (by omega) (by decide)) (by omega) ?_);intro ZN c1 r ZP C S u1;go_wp2;go_ret;exact C.fin rfl (NV.1 (by omega)) (by omega) (by omega)
 ·rcases ZQ with rfl|rfl|rfl|rfl;all_goals
   go_wp2_with fail;refine(dH R _ _ C.rd (by omega)).P ?_;rintro e l⟨t,rfl,ht,hR,b⟩;replace C:=ae (C.ac b hR);clear b hR
   iterate 2
    go_wp2_with fail;with_reducible first|refine(bq _ _).P ?_|refine(bS _ _ _).P ?_|refine(bC _ _).P ?_
    rintro e l⟨rfl,j⟩;replace C:=ae (C.aa j);clear j
   go_wp2_with (at_builtin;first|(refine ie rfl _ _ rfl C [(1,t.data.toList,0),(12,[],0)] 2 (by simp[Act.eval]) (by simp[Act.eval]) rfl rfl (by simp) (eS (by omega) (by decide)) (by omega) ?_)|(refine ie rfl _ _ rfl C [(1,t.data.toList,0),(13,[],0)] 2 (by simp[Act.eval]) (by simp[Act.eval]) rfl rfl (by simp) (eS (by omega) (by decide)) (by omega) ?_));intro ZN c1 r ZP C S u1;go_wp2;go_ret;exact C.fin rfl (NV.1 (by omega)) (by omega) (by omega)
 ·skip;go_wp2_with fail;refine(dH R _ _ C.rd (by omega)).P ?_;rintro e l⟨t,rfl,ht,hR,b⟩;replace C:=ae (C.ac b hR);clear b hR;iterate 2
   go_wp2_with fail;with_reducible first|refine(bq _ _).P ?_|refine(bS _ _ _).P ?_|refine(bC _ _).P ?_
   rintro e l⟨rfl,j⟩;replace C:=ae (C.aa j);clear j
  go_wp2_with fail;refine(ay R _ 3 _ C.rd (by omega) (by omega) (by omega)).P ?_;rintro e l⟨y,rfl,y0,y1,hR,b⟩;replace C:=ae (C.ac b hR);clear b hR;iterate 2
   go_wp2_with fail;with_reducible first|refine(bq _ _).P ?_|refine(bS _ _ _).P ?_|refine(bC _ _).P ?_
   rintro e l⟨rfl,j⟩;replace C:=ae (C.aa j);clear j
  go_wp2_with (at_builtin;refine ie rfl _ _ rfl C [(1,t.data.toList,0),(12,[],0),(5,[],y),(12,[],0)] 4 (by simp[Act.eval]) (by simp[Act.eval]) rfl rfl (by simp) (eS (by omega) (by intro i hi;simp only[vG,nj,QV] at hi;rcases hi with rfl|rfl|rfl<;>exact DW _)) (by omega) ?_);intro ZN c1 r ZP C S u1;go_wp2;go_ret;exact C.fin rfl (NV.1 (by omega)) (by omega) (by omega)
 ·have ZV:=fd (by omega);obtain⟨aq,X,ZL⟩:=ex ZV;rcases ZQ with rfl|rfl|rfl|rfl;all_goals
   go_wp2_with fail;refine(V ZV R _ at_ _ C.rd (by omega) (by omega) (by omega)).P ?_;rintro e l⟨M,D,ZT,rfl,hM,f,ZO,m,q1,hq1,hR,b⟩;replace C:=ae (C.ac b hR);have ZR:=ae hM.news;have o:=ae m;have n:=ae f;have O:=NV.2 f;clear b hR hM m f;go_wp2_with (at_builtin;refine qg rfl _ _ rfl C br (T D 0 Z) (z M) ZT (by simp[Act.eval]) (by simp[Act.eval]) rfl n ZR o (by omega) ?_);intro ZN c1 r ZP C S u1;clear ZR o n
  ·skip;go_wp2_with fail;refine(V ZV R _ (at_+(z r:Int)) _ C.rd (by omega) (by omega) (by omega)).P ?_;rintro e l⟨M,D,ZT,rfl,hM,f,ZO,m,q2,bt,hR,b⟩;replace C:=ae (C.ac b hR);have ZR:=ae hM.news;have o:=ae m;have n:=ae f;have O:=NV.2 f;clear b hR hM m f;go_wp2_with (at_builtin;refine qg rfl _ _ rfl C br (T D 0 Z) (z M) ZT (by simp[Act.eval]) (by simp[Act.eval]) rfl n ZR o (by omega) ?_);intro g2 c2 L2 W2 C l2 u2;clear ZR o n;go_wp2_with fail;refine(ay R _ 2 _ C.rd (by omega) (by omega) (by omega)).P ?_;rintro e l⟨y,rfl,y0,y1,hR,b⟩;replace C:=ae (C.ac b hR);clear b hR;go_wp2_with fail;with_reducible first|refine(bq _ _).P ?_|refine(bS _ _ _).P ?_|refine(bC _ _).P ?_
   rintro e l⟨rfl,j⟩;replace C:=ae (C.aa j);clear j;go_wp2_with (at_builtin;refine ie rfl _ _ rfl C [((2+4*y),[],0)] 1 (by simp[Act.eval]) (by simp[Act.eval]) rfl rfl (by simp) (λi hi=>by rw[j4.1 hi];exact DW _) (by omega) ?_);intro g3 c3 K W3 C l3 u3;go_wp2;go_ret;exact C.fin rfl (NV.1 (by omega)) (by omega) (by omega)
  ·skip;go_wp2_with fail;refine(ay R _ 3 _ C.rd (by omega) (by omega) (by omega)).P ?_;rintro e l⟨x,rfl,x0,x1,hR,b⟩;replace C:=ae (C.ac b hR);clear b hR;go_wp2_with fail;refine(ay R _ 4 _ C.rd (by omega) (by omega) (by omega)).P ?_;rintro e l⟨y,rfl,y0,y1,hR,b⟩;replace C:=ae (C.ac b hR);clear b hR;go_wp2_with fail;with_reducible first|refine(bq _ _).P ?_|refine(bS _ _ _).P ?_|refine(bC _ _).P ?_
   rintro e l⟨rfl,j⟩;replace C:=ae (C.aa j);clear j;go_wp2_with (at_builtin;refine ie rfl _ _ rfl C [((3+x),[],y)] 1 (by simp[Act.eval]) (by simp[Act.eval]) rfl rfl (by simp) (λi hi=>by rw[j4.1 hi];exact DW _) (by omega) ?_);intro g2 c2 L2 W2 C l2 u2;go_wp2;go_ret;exact C.fin rfl (NV.1 (by omega)) (by omega) (by omega)
  all_goals
   go_wp2_with fail;with_reducible first|refine(bq _ _).P ?_|refine(bS _ _ _).P ?_|refine(bC _ _).P ?_
   rintro e l⟨rfl,j⟩;replace C:=ae (C.aa j);clear j;go_wp2_with (at_builtin;refine ie rfl _ _ rfl C [(11,[],0)] 1 (by simp[Act.eval]) (by simp[Act.eval]) rfl rfl (by simp) (λi hi=>by rw[j4.1 hi];exact DW _) (by omega) ?_);intro g2 c2 L2 W2 C l2 u2;go_wp2_with fail;refine(V ZV R _ (at_+(z L2:Int)) _ C.rd (by omega) (by omega) (by omega)).P ?_;rintro e l⟨M,D,ZT,rfl,hM,f,ZO,m,q3,hq3,hR,b⟩;replace C:=ae (C.ac b hR);have ZR:=ae hM.news;have o:=ae m;have n:=ae f;have O:=NV.2 f;clear b hR hM m f;go_wp2_with (at_builtin;refine qg rfl _ _ rfl C br (T D 0 Z) (z M) ZT (by simp[Act.eval]) (by simp[Act.eval]) rfl n ZR o (by omega) ?_);intro g3 c3 K W3 C l3 u3;clear ZR o n;go_wp2_with fail;with_reducible first|refine(bq _ _).P ?_|refine(bS _ _ _).P ?_|refine(bC _ _).P ?_
   rintro e l⟨rfl,j⟩;replace C:=ae (C.aa j);clear j;go_wp2_with (at_builtin;refine ie rfl _ _ rfl C [(10,[],0)] 1 (by simp[Act.eval]) (by simp[Act.eval]) rfl rfl (by simp) (λi hi=>by rw[j4.1 hi];exact DW _) (by omega) ?_);intro g4 c4 L4 W4 C l4 u4;obtain⟨⟨n0,cn⟩,fz⟩:=C.ir.cellN (i:=z r) (by omega);have il:(z r:Int)<(z L4:Int):=by omega
   have gl:=C.ir.lt.2;go_wp2_with fail;refine(oL _ _).P ?_;rintro e l⟨rfl,G⟩;rw[G];clear G;generalize (if 200<at_+(z L4:Int) then 200 else at_+(z L4:Int))=sv;obtain⟨L5,hlk,u,H⟩:=C.ir.setN (i:=z r) (by omega) sv;replace C:=ae (C.low ((a8 (A (B w)) W4).setCell (p:=(T g4 (z r*3+2) Z)) C.ir.lt.1 (J I sv)) H (u C.tx));go_upto_region 33 with fail;generalize World.setCell W4 _ _=W5 at C ⊢;rw[<-hlk];have b5:=VV hlk;have d5:=VV hlk.c;clear hlk u H cn fz gl il;go_wp2_with fail;refine(V ZV R _ (at_+(z L5:Int)) _ C.rd (by omega) (by omega) (by omega)).P ?_;rintro e l⟨M,D,ZT,rfl,hM,f,ZO,m,q6,hq6,hR,b⟩;replace C:=ae (C.ac b hR);have ZR:=ae hM.news;have o:=ae m;have n:=ae f;have O:=NV.2 f;clear b hR hM m f;go_wp2_with (at_builtin;refine qg rfl _ _ rfl C br (T D 0 Z) (z M) ZT (by simp[Act.eval]) (by simp[Act.eval]) rfl n ZR o (by omega) ?_);intro g6 c6 L6 W6 C l6 u6;clear ZR o n;obtain⟨⟨n0,cn⟩,fz⟩:=C.ir.cellN (i:=z K) (by omega);have il:(z K:Int)<(z L6:Int):=by omega
   have gl:=C.ir.lt.2;go_wp2_with fail;refine(oL _ _).P ?_;rintro e l⟨rfl,G⟩;rw[G];clear G;generalize (if 200<at_+(z L6:Int) then 200 else at_+(z L6:Int))=sv;obtain⟨L7,hlk,u,H⟩:=C.ir.setN (i:=z K) (by omega) sv;replace C:=ae (C.low ((a8 (A (B w)) W6).setCell (p:=(T g6 (z K*3+2) Z)) C.ir.lt.1 (J I sv)) H (u C.tx));go_upto_region 35 with fail;generalize World.setCell W6 _ _=W7 at C ⊢;rw[<-hlk];have b7:=VV hlk;have d7:=VV hlk.c;clear hlk u H cn fz gl il;go_wp2;go_ret;exact C.fin rfl (NV.1 (by omega)) (by omega) (by omega)
 ·skip;go_wp2_with fail;refine(fT R _ _ C.rd (by omega)).P ?_;rintro e l⟨t,rfl,ht,q2,bt,hR,b⟩;replace C:=ae (C.ac b hR);clear b hR;iterate 4
   go_wp2_with fail;with_reducible first|refine(bq _ _).P ?_|refine(bS _ _ _).P ?_|refine(bC _ _).P ?_
   rintro e l⟨rfl,j⟩;replace C:=ae (C.aa j);clear j
  go_wp2_with (at_builtin;refine ie rfl _ _ rfl C [(1,t.data.toList,0),(7,[],0),(8,[],0),(9,[],0)] 4 (by simp[Act.eval]) (by simp[Act.eval]) rfl rfl (by simp) (eS (by omega) (by decide)) (by omega) ?_);intro ZN c1 r ZP C S u1;go_wp2;go_ret;exact C.fin rfl (NV.1 (by omega)) (by omega) (by omega)
def AY (R p:Nat)(at_:Int)(w:E)(hR:Rd w R p)(f:p+14<=30000)(b:0<=at_)(h1:at_+4<=10000):Qw Pg 81 #[.pointer (Q (T R 0 Z)),J I at_,J I 0] w λe g=>DI w R (p+14) 4 e g:=
 sB 0 4 14 4 14 (by omega) (by omega) (by omega) (by omega) (by omega) (λh=>absurd h (by omega)) (λh=>absurd h (by omega)) R p at_ w hR f b h1
def nr (d b f:Nat)(hd3:(d:Int)<=10)(hb:b<=44)(j:4<=b)(l:∀(R p:Nat) (at_:Int) (w:E),Rd w R p->p+f<=30000->0<=at_->at_+(b:Int)<=10000->Qw Pg 81 #[.pointer (Q (T R 0 Z)),J I at_,J I d] w λe g=>DI w R (p+f) b e g)
  (R p:Nat) (at_:Int) (w:E) (hR:Rd w R p) (m:p+(3*f+14)<=30000) (h:0<=at_) (i:at_+((3*b+2:Nat):Int)<=10000) :
  Qw Pg 81 #[.pointer (Q (T R 0 Z)),J I at_,J I ((d:Int)+1)] w λe g=>DI w R (p+(3*f+14)) (3*b+2) e g:=
 sB ((d:Int)+1) b f (3*b+2) (3*f+14) (by omega) (by omega) hb (by omega) (by omega) (λ_=>⟨p7 _,p7 _,j⟩) (λ_=>by rw[Int.add_sub_cancel];exact l) R p at_ w hR m h i
def VD (b f:Nat)(d:Int):Prop:=∀(R p:Nat) (at_:Int) (w:E),Rd w R p->p+b<=30000->0<=at_->at_+(f:Int)<=10000->Qw Pg 81 #[.pointer (Q (T R 0 Z)),J I at_,J I d] w λe g=>DI w R (p+b) f e g
def vd0:VD 14 4 ((0:Nat):Int):=λR p at_ w hR b f h1=>AY R p at_ w hR b f (by omega)
def vd1:VD 56 14 ((1:Nat):Int):=λR p at_ w hR hp b h1=>nr 0 4 14 (by omega) (by omega) (by omega) vd0 R p at_ w hR (by omega) b (by omega)
def vd2:VD 182 44 ((2:Nat):Int):=λR p at_ w hR hp b h1=>nr 1 14 56 (by omega) (by omega) (by omega) vd1 R p at_ w hR (by omega) b (by omega)
def vd3:VD 560 134 ((3:Nat):Int):=λR p at_ w hR hp b h1=>nr 2 44 182 (by omega) (by omega) (by omega) vd2 R p at_ w hR (by omega) b (by omega)
def DI.P{b:E}{e:Ending}(h:DI w R q n e b)(i:q<=q')(hn:n<=f):DI w R q' f e b:=by obtain⟨L,g,c,h1,h2,j,l,r,p,m,o⟩:=h;exact⟨L,g,c,h1,h2,j,nX l hn,r,p,nX m i,o⟩
def wY (R p:Nat)(ZX:Int)(hz:ZX=0\/ZX=1)(w:E)(hR:Rd w R p)(hp:p<=29000):Qw Pg 81 #[.pointer (Q (T R 0 Z)),J I 0,J I (2+ZX)] w λe b=>DI w R (p+560) 134 e b:=by
 rcases hz with rfl|rfl;{exact(vd2 R p 0 w hR (by omega) (by omega) (by omega)).P λe b h=>h.P (by omega) (by omega)};{exact vd3 R p 0 w hR (by omega) (by omega) (by omega)}
def ST (w:E)(R rb:Nat)(W:E)(q:Nat):Prop:=Rd W R q/\zt R w W/\PB W rb (Y Z 0 0)/\R<A (B w)/\(A (B w))<=rb
def SC (w:E)(R rb:Nat)(W:E)(q g c:Nat)(L:List I3)(n:Nat):Prop:=ST w R rb W q/\IR W (rb+1) g c L/\(z L)<=n/\∀i∈L,i.2.1.length<=5000
def ST.rd (h:ST w R rb W q):Rd W R q:=h.1
def ST.lt (h:ST w R rb W q):rb<A (B W):=h.2.2.1.lt
def ST.low (h:ST w R rb W q)(hb:Below (rb+1) W W'):ST w R rb W' q:=by obtain⟨h1,h2,b,f,g⟩:=h;exact⟨h1.low hb (by omega),h2.then (hb.P (by omega)),b.aa hb (by omega),f,g⟩
def ST.aa (h:ST w R rb W q)(hb:Below (A (B W)) W W'):ST w R rb W' q:=h.low (hb.P h.lt)
def PB.ac{f:E}{v:ZB}(h:PB w b v)(g:zt R w f)(hR:b≠R):PB f b v:=(g.p b h.lt hR).k h
def ST.ac (h:ST w R rb W q)(b:zt R W W')(hR:Rd W' R q'):ST w R rb W' q':=by obtain⟨h1,h2,f,g,i⟩:=h;exact⟨hR,h2.k b,f.ac b (by omega),g,i⟩
def ST.new (h:Rd w R q):ST w R (A (B w)) (w.alloc (N #[Y Z 0 0] 37)) q:=by have b:=(BS w).alloc ly (N #[Y Z 0 0] 37);exact⟨h.aa b ly,zt.l b,gM w _,h.lt,p7 _⟩
def SC.st{c:Nat}(h:SC w R rb W q g c L n):ST w R rb W q:=h.1
def SC.ir{c:Nat}(h:SC w R rb W q g c L n):IR W (rb+1) g c L:=h.2.1
def SC.len{c:Nat}(h:SC w R rb W q g c L n):z L<=n:=h.2.2.1
def SC.up{c:Nat}(h:SC w R rb W q g c L n)(b:n<=m):SC w R rb W q g c L m:=⟨h.1,h.2.1,nX h.2.2.1 b,h.2.2.2⟩
def SC.aa{c:Nat}(h:SC w R rb W q g c L n)(hb:Below (A (B W)) W W'):SC w R rb W' q g c L n:=
 ⟨h.1.aa hb,h.2.1.aa hb ly,h.2.2⟩
def SC.ac{c:Nat}(h:SC w R rb W q g c L n)(b:zt R W W')(hR:Rd W' R q'):SC w R rb W' q' g c L n:=
 ⟨h.1.ac b hR,h.2.1.ac b (by have:=h.1.2.2.2;omega),h.2.2⟩
def SC.di{c:Nat}(h:ST w R rb W q)(b:IR W' (A (B W)) g c L)(hn:z L<=n)(f:∀i∈L,i.2.1.length<=5000)(j:zt R W W')(hR:Rd W' R q'):SC w R rb W' q' g c L n:=
 ⟨h.ac j hR,aE b h.lt,hn,f⟩
def SC.app{c:Nat}(b:Array ZB)(h:SC w R rb W q g c L n)(j:IR W' (rb+1) g' c' (L++M))(o:(W.alloc (N b 102)).grownBy W' (Q g))(hn:n+z M<=n')(l:∀i∈M,i.2.1.length<=5000):SC w R rb W' q g' c' (L++M) n':=by
 have f:=h.1.lt;have m:=bg ((a8 (rb+1) W).alloc f (N b 102)) o (by simp;omega) (λk e=>by have:=h.2.1.lt;simp at e;omega);refine⟨h.1.low m,j,by rw[cM];have:=h.len;omega,λi hi=>?_⟩;rcases p8.1 hi with hi|hi;{exact h.2.2.2 i hi};{exact l i hi}
def IR.new (W:E)(b:Nat)(hb:b<=A (B W))(L:List I3)(f:Array ZB)(g:f.toList=i3L L)(n:Nat)(hn:n=z L)(hm:n<=100000):IR (W.alloc (N f 102)) b (A (B W)) n L:=by
 subst hn;have hz:f.size=z L*3:=by rw[<-jA,<-g,Q9]
 refine⟨jA L,.inr ⟨A (B W),z L,f,rfl,hb,gM W _,p7 _,by unfold maxLen;omega,hz,?_⟩⟩;rw[g,NU (by rw[jA];omega)]
def SC.lit (h:ST w R rb W q)(L:List I3)(b:Array ZB)(j:b.toList=i3L L)(n:Nat)(hn:n=z L)(f:n<=100000)(g:∀i∈L,i.2.1.length<=5000):SC w R rb (W.alloc (N b 102)) q (A (B W)) n L n:=
 ⟨h.aa (br.alloc ly _),IR.new W (rb+1) h.lt L b j n hn f,by omega,g⟩
def SC.fin{c:Nat}(h:SC w R rb W q g c L n)(v:ZB):PB (ZU W (T rb 0 Z) v) rb v/\IR (ZU W (T rb 0 Z) v) (A (B w)) g c L/\(z L)<=n/\(∀i∈L,i.2.1.length<=5000)/\Rd (ZU W (T rb 0 Z) v) R q/\zt R w (ZU W (T rb 0 Z) v):=by obtain⟨⟨h1,h2,b,j,o⟩,l,m,f⟩:=h;have ZW:=(a8 (A (B w)) W).setCell (p:=(T rb 0 Z)) o v;exact⟨b.set v,aE (Ee l (by omega) v) (by omega),m,f,h1.low ZW j,h2.then ZW⟩
def DP (w:E)(R q lo n:Nat)(e:Ending)(w':E):Prop:=∃(L:List I3) (g c:Nat),e=ZI (.agg #[Y (Q (T g 0 Z)) (z L) c])/\IR w' (A (B w)) g c L/\lo<=z L/\(z L)<=n/\(∀i∈L,i.2.1.length<=5000)/\∃q':Nat,q'<=q/\Rd w' R q'/\zt R w w'
def gN{fn:Func}{p:Tmp}(h:fn.results=#[.cell p 37])(tmps:Array ZB)(w:E)(g:Nat)(v:ZB)(f:tmps.getD p undef=.pointer (Q (T g 0 Z)))(b:PB w g v):(results fn tmps).run Pg w=.ok (.agg #[v]) w:=
 results_cell_row h tmps w g 37 #[v] (0,0) _ f b underlying37 rfl wX
def cY (L:List I3)(i:Nat):Ins:=⟨(L.getD i (0,[],0)).1,⟨(L.getD i (0,[],0)).2.1.toArray⟩,(L.getD i (0,[],0)).2.2⟩
def AZ:∀(L:List I3) (i:Nat),i<z L->(i3L L)[i*3]?=Q (J I (cY L i).op)/\(i3L L)[i*3+1]?=Q (U (cY L i).s)/\(i3L L)[i*3+2]?=Q (J I (cY L i).n)
 |[],i,h=>by simp at h
 |x::L,0,_=>⟨rfl,rfl,rfl⟩
 |x::L,i+1,h=>by
  have g:=AZ L i (by simpa using h);have f:(i3V x).length=3:=rfl;have e:∀k,(i3L (x::L))[(i+1)*3+k]?=(i3L L)[i*3+k]?:=λk=>by show(i3V x++i3L L)[(i+1)*3+k]?=_;rw[KK (by rw[f];omega),f,show(i+1)*3+k - 3=i*3+k by omega]
  have b:=e 0;rw[QE,QE] at b;rw[b,e 1,e 2];exact g
def IR.at{c:Nat}(h:IR w b g c L):∀i,i<z L->AtIns w g 0 i (cY L i):=by intro i hi;obtain⟨f,h1,h2⟩:=AZ L i hi;have c0:=h.news _ _ f;have c1:=h.news _ _ h1;have c2:=h.news _ _ h2;rw[gK] at c0 c1 c2;exact⟨c0,c1,c2⟩
def GV (b:∀i∈L,i.2.1.length<=5000):∀i,i<z L->(cY L i).s.size<=maxLen:=by
 intro i hi;have h:=b L[i] (gz hi);have e:L.getD i (0,[],0)=L[i]:=by simp[hi]
 show(L.getD i (0,[],0)).2.1.toArray.size<=maxLen;rw[e,QF];unfold maxLen;omega
def wZ (n:Nat)(w:E)(hn:(n:Int)<=300):Qw Pg 83 #[J I n] w λe p=>∃(L:List I3) (g:Nat),e=ZI (Y (Q (T g 0 Z)) 7 7)/\IR p (A (B w)) g 7 L/\(z L)=7/\(∀i∈L,i.2.1.length<=5000)/\Below (A (B w)) w p:=by
 go_enter func83,ntmps83;go_wp2_with fail;refine(eP ⟨#[97,32]⟩ n _ (by show 2*n<=4000;omega) (by omega)).P ?_;rintro e Wx⟨t,rfl,o,h⟩;rw[h];have x:t.size<=5000:=nX o (by show 2*n<=5000;omega);clear o h;go_wp2_with fail;refine(bC t _).P ?_;rintro e W1⟨rfl,b⟩;have j:=ae (b);clear b;go_wp2_with fail;refine(bq 7 _).P ?_;rintro e W2⟨rfl,b⟩;have l:=ae (j.k (b.P j.size));clear b;go_wp2_with fail;refine(bS 5 0 _).P ?_;rintro e W3⟨rfl,b⟩;have q:=ae (l.k (b.P l.size));clear b;go_wp2_with fail;refine(bq 13 _).P ?_;rintro e W4⟨rfl,b⟩;have s:=ae (q.k (b.P q.size));clear b;go_wp2_with fail;refine(bq 9 _).P ?_;rintro e W5⟨rfl,b⟩;have m:=ae (s.k (b.P s.size));clear b;go_wp2_with fail;refine(bS 4 2 _).P ?_;rintro e W6⟨rfl,b⟩;have r:=ae (m.k (b.P m.size));clear b;go_wp2_with fail;refine(bS 10 1 _).P ?_;rintro e u⟨rfl,b⟩;have f:=ae (r.k (b.P r.size));clear b;go_wp2;go_ret;refine⟨[(1,t.data.toList,0),(7,[],0),(5,[],0),(13,[],0),(9,[],0),(4,[],2),(10,[],1)],_,rfl,IR.new u _ f.size _ _ rfl _ rfl (by omega),rfl,?_,f.alloc f.size _⟩;intro i hi;simp only[vG,nj,QV] at hi;rcases hi with rfl|rfl|rfl|rfl|rfl|rfl|rfl;{show (z t.data.toList)<=5000;rw[Q9];exact x};all_goals exact DW _
def fZ (R p:Nat)(w:E)(hR:Rd w R p)(hp:p<=20000):Qw Pg 55 #[.pointer (Q (T R 0 Z))] w λe w'=>DP w R (p+600) 1 140 e w':=by
 have ZT:=ae (ST.new hR);clear hR;go_enter func55,ntmps55;go_wp2_with fail;generalize World.alloc w _=W0 at ZT ⊢;refine(ay R _ 2 _ ZT.rd (by omega) (by omega) (by omega)).P ?_;rintro e W1⟨d,rfl,d0,d1,hR,h⟩;have P:=ae (ZT.ac h hR);clear h hR ZT;go_wp2_with fail;refine(wY R _ d (by omega) _ P.rd (by omega)).P ?_;rintro e W2⟨L,g,c,rfl,l,S,hn,ZW,ZL,hq2,hR,h⟩;have C:Hid (SC w R (A (B w)) W2 ZL g c L 134):=SC.di P l hn ZW h hR;clear h hR l ZW S hn P;go_wp2_with fail;refine(ay R _ 24 _ C.st.rd (by omega) (by omega) (by omega)).P ?_;rintro e f⟨ZX,rfl,z0,z1,hR,h⟩;replace C:=ae (C.ac h hR);clear h hR;go_upto_if 13 with fail;go_cut [3] (λm j=>∃(L:List I3) (g c q:Nat),m=Y (Q (T g 0 Z)) (z L) c/\q<=ZL+2/\Hid (SC w R (A (B w)) j q g c L 135));case first =>
  rcases(show ZX=0\/ZX=1\/ZX=2\/3<=ZX by omega) with rfl|rfl|rfl|h3
  ·iterate 1
    go_wp2_with fail;with_reducible first|refine(bq _ _).P ?_|refine(bS _ _ _).P ?_|refine(bC _ _).P ?_
    rintro e f⟨rfl,b⟩;replace C:=ae (C.aa b);clear b
   have X:=ae (C.aa ((BS f).alloc ly (N #[J I 14,U ⟨#[]⟩,J I 0] 102)));have ln:=C.len;go_wp2_with (at_builtin;refine gL rfl (.tmp 14) (.tmp 16) rfl (A (B w)+1) g c L (by simp[Act.eval]) X.ir (T (A (B f)) 0 Z) 1 1 [(14,[],0)] (by simp[Act.eval]) rfl (by simp) (eQ f #[J I 14,U ⟨#[]⟩,J I 0] _) (by simp only[vF,IS];omega) (by have:=C.st.lt;simp;omega) ?_;intro D c1 O l r);go_meet;exact⟨_,D,c1,_,by simp,by omega,(C.app (n':=135) _ l r (by show 134+1<=135;omega) (λi hi=>by rw[j4.1 hi];exact DW _))⟩
  ·iterate 1
    go_wp2_with fail;with_reducible first|refine(bq _ _).P ?_|refine(bS _ _ _).P ?_|refine(bC _ _).P ?_
    rintro e f⟨rfl,b⟩;replace C:=ae (C.aa b);clear b
   have X:=ae (C.aa ((BS f).alloc ly (N #[J I 10,U ⟨#[]⟩,J I 0] 102)));have ln:=C.len;go_wp2_with (at_builtin;refine gL rfl (.tmp 20) (.tmp 22) rfl (A (B w)+1) g c L (by simp[Act.eval]) X.ir (T (A (B f)) 0 Z) 1 1 [(10,[],0)] (by simp[Act.eval]) rfl (by simp) (eQ f #[J I 10,U ⟨#[]⟩,J I 0] _) (by simp only[vF,IS];omega) (by have:=C.st.lt;simp;omega) ?_;intro D c1 O l r);go_meet;exact⟨_,D,c1,_,by simp,by omega,(C.app (n':=135) _ l r (by show 134+1<=135;omega) (λi hi=>by rw[j4.1 hi];exact DW _))⟩
  ·go_wp2_with fail;refine(ay R _ 15 _ C.st.rd (by omega) (by omega) (by omega)).P ?_;rintro e f⟨y,rfl,y0,ZN,hR,h⟩;replace C:=ae (C.ac h hR);clear h hR;iterate 1
    go_wp2_with fail;with_reducible first|refine(bq _ _).P ?_|refine(bS _ _ _).P ?_|refine(bC _ _).P ?_
    rintro e f⟨rfl,b⟩;replace C:=ae (C.aa b);clear b
   have X:=ae (C.aa ((BS f).alloc ly (N #[J I (1+y),U ⟨#[]⟩,J I 0] 102)));have ln:=C.len;go_wp2_with (at_builtin;refine gL rfl (.tmp 26) (.tmp 31) rfl (A (B w)+1) g c L (by simp[Act.eval]) X.ir (T (A (B f)) 0 Z) 1 1 [((1+y),[],0)] (by simp[Act.eval]) rfl (by simp) (eQ f #[J I (1+y),U ⟨#[]⟩,J I 0] _) (by simp only[vF,IS];omega) (by have:=C.st.lt;simp;omega) ?_;intro D c1 O l r);go_meet;exact⟨_,D,c1,_,by simp,by omega,(C.app (n':=135) _ l r (by show 134+1<=135;omega) (λi hi=>by rw[j4.1 hi];exact DW _))⟩
  ·have n0:(ZX == 0)=ZA:=by simp;omega
   have n1:(ZX == 1)=ZA:=by simp;omega
   have n2:(ZX == 2)=ZA:=by simp;omega
   go_wp2;go_meet;exact⟨L,g,c,_,rfl,by omega,C.up (by omega)⟩
 case rest =>
 clear C;obtain⟨K,g0,c0,q3,rfl,hq3,C⟩:=hcut;iterate 1
  go_wp2_with fail;with_reducible first|refine(bq _ _).P ?_|refine(bS _ _ _).P ?_|refine(bC _ _).P ?_
  rintro e f⟨rfl,b⟩;replace C:=ae (C.aa b);clear b
 have X:=ae (C.aa ((BS f).alloc ly (N #[J I 15,U ⟨#[]⟩,J I 0] 102)));have ln:=C.len;go_upto_if 38 with (at_builtin;refine gL rfl (.tmp 33) (.tmp 35) rfl (A (B w)+1) g0 c0 K (by simp[Act.eval]) X.ir (T (A (B f)) 0 Z) 1 1 [(15,[],0)] (by simp[Act.eval]) rfl (by simp) (eQ f #[J I 15,U ⟨#[]⟩,J I 0] _) (by simp only[vF,IS];omega) (by have:=C.st.lt;simp;omega) ?_;intro g c O l r);replace C:=ae (C.app (n':=136) _ l r (by show 135+1<=136;omega) (λi hi=>by rw[j4.1 hi];exact DW _));clear l r X ln;generalize hL:K++[(15,[],0)]=L at C;have hn1:z K+1=z L:=by rw[<-hL,cM];rfl
 rw[hn1];clear hL hn1;go_cut [3] (λm j=>∃(L:List I3) (g c q:Nat),m=Y (Q (T g 0 Z)) (z L) c/\q<=q3/\Hid (SC w R (A (B w)) j q g c L 140));case first =>
  by_cases hz:ZX=3
  ·subst hz;iterate 4
    go_wp2_with fail;with_reducible first|refine(bq _ _).P ?_|refine(bS _ _ _).P ?_|refine(bC _ _).P ?_
    rintro e f⟨rfl,b⟩;replace C:=ae (C.aa b);clear b
   have ZV:=ae (SC.lit C.st [(1,[97,98,99,100,101,102,103,104],0),(7,[],0),(2,[],0),(10,[],1)] #[J I 1,U ⟨#[97,98,99,100,101,102,103,104]⟩,J I 0,J I 7,U ⟨#[]⟩,J I 0,J I 2,U ⟨#[]⟩,J I 0,J I 10,U ⟨#[]⟩,J I 1] rfl 4 rfl (by omega) (by decide));go_wp2;go_meet;exact⟨_,_,_,_,rfl,by omega,ZV.up (by omega)⟩
  {go_wp2;go_meet;exact⟨L,g,c,_,rfl,by omega,C.up (by omega)⟩}
 case rest =>
 clear C;obtain⟨L,g,c,q4,rfl,hq4,C⟩:=hcut;go_upto_if 45 with fail;go_cut [3] (λm j=>∃(L:List I3) (g c q:Nat),m=Y (Q (T g 0 Z)) (z L) c/\q<=q4+1/\Hid (SC w R (A (B w)) j q g c L 140));case first =>
  by_cases hz:ZX=4
  ·subst hz;go_wp2_with fail;refine(dH R _ _ C.st.rd (by omega)).P ?_;rintro e f⟨t,rfl,ZS,hR,h⟩;replace C:=ae (C.ac h hR);clear h hR;iterate 4
    go_wp2_with fail;with_reducible first|refine(bq _ _).P ?_|refine(bS _ _ _).P ?_|refine(bC _ _).P ?_
    rintro e f⟨rfl,b⟩;replace C:=ae (C.aa b);clear b
   have ZV:=ae (SC.lit C.st [(1,t.data.toList,0),(13,[],0),(9,[],0),(10,[],0)] #[J I 1,U t,J I 0,J I 13,U ⟨#[]⟩,J I 0,J I 9,U ⟨#[]⟩,J I 0,J I 10,U ⟨#[]⟩,J I 0] rfl 4 rfl (by omega) (eS (by omega) (by decide)));go_wp2;go_meet;exact⟨_,_,_,_,rfl,by omega,ZV.up (by omega)⟩
  {go_wp2;go_meet;exact⟨L,g,c,_,rfl,by omega,C.up (by omega)⟩}
 case rest =>
 clear C;obtain⟨L,g,c,q5,rfl,hq5,C⟩:=hcut;go_upto_region 14 with fail;go_cut [59] (λsb j=>∃(u:Bool) (q:Nat),sb=ZF u/\q<=q5+1/\Hid (SC w R (A (B w)) j q g c L 140));case first =>
  by_cases hz:ZX=7;{subst hz;go_wp2_with fail;refine(ay R _ 3 _ C.st.rd (by omega) (by omega) (by omega)).P ?_;rintro e f⟨x,rfl,x0,x1,hR,h⟩;replace C:=ae (C.ac h hR);clear h hR;go_wp2;go_meet;exact⟨_,_,rfl,by omega,C⟩};{go_wp2;go_meet;exact⟨_,_,rfl,by omega,C⟩}
 case rest =>
 clear C;obtain⟨u,V,rfl,hq5b,C⟩:=hcut;go_upto_if 59 with fail;go_cut [3] (λm j=>∃(L:List I3) (g c q:Nat),m=Y (Q (T g 0 Z)) (z L) c/\q<=V+1/\Hid (SC w R (A (B w)) j q g c L 140));case first =>
  cases u with
  |false =>go_wp2;go_meet;exact⟨L,g,c,_,rfl,by omega,C⟩
  |true =>
   go_wp2_with fail;refine(ay R _ 2 _ C.st.rd (by omega) (by omega) (by omega)).P ?_;rintro e f⟨y,rfl,y0,ZN,hR,h⟩;replace C:=ae (C.ac h hR);clear h hR;go_wp2_with fail;obtain⟨m0,s⟩:∃m0:Nat,499+y=(m0:Int):=⟨(499+y).toNat,by omega⟩
   rw[s];refine(eP ⟨#[120]⟩ m0 _ (by show 1*m0<=4000;omega) (by omega)).P ?_;rintro e Wm⟨t,rfl,ZS,ZO⟩;rw[ZO];have ZM:t.size<=5000:=nX ZS (by show 1*m0<=5000;omega);clear ZS s ZO;iterate 6
    go_wp2_with fail;with_reducible first|refine(bq _ _).P ?_|refine(bS _ _ _).P ?_|refine(bC _ _).P ?_
    rintro e f⟨rfl,b⟩;replace C:=ae (C.aa b);clear b
   have ZV:=ae (SC.lit C.st [(1,t.data.toList,0),(7,[],0),(11,[],5),(4,[],1),(10,[],1),(9,[],0)] #[J I 1,U t,J I 0,J I 7,U ⟨#[]⟩,J I 0,J I 11,U ⟨#[]⟩,J I 5,J I 4,U ⟨#[]⟩,J I 1,J I 10,U ⟨#[]⟩,J I 1,J I 9,U ⟨#[]⟩,J I 0] rfl 6 rfl (by omega) (eS ZM (by decide)));go_wp2;go_meet;exact⟨_,_,_,_,rfl,by omega,ZV.up (by omega)⟩
 case rest =>
 clear C;obtain⟨L,g,c,q6,rfl,hq6,C⟩:=hcut;go_upto_region 16 with fail;go_cut [77] (λsb j=>∃(u:Bool) (q:Nat),sb=ZF u/\q<=q6+1/\Hid (SC w R (A (B w)) j q g c L 140));case first =>
  by_cases hz:ZX=6;{subst hz;go_wp2_with fail;refine(ay R _ 3 _ C.st.rd (by omega) (by omega) (by omega)).P ?_;rintro e f⟨x,rfl,x0,x1,hR,h⟩;replace C:=ae (C.ac h hR);clear h hR;go_wp2;go_meet;exact⟨_,_,rfl,by omega,C⟩};{go_wp2;go_meet;exact⟨_,_,rfl,by omega,C⟩}
 case rest =>
 clear C;obtain⟨u,W,rfl,hq6b,C⟩:=hcut;go_upto_if 77 with fail;go_cut [3] (λm j=>∃(L:List I3) (g c q:Nat),m=Y (Q (T g 0 Z)) (z L) c/\q<=W+1/\Hid (SC w R (A (B w)) j q g c L 140));case first =>
  cases u with
  |false =>go_wp2;go_meet;exact⟨L,g,c,_,rfl,by omega,C⟩
  |true =>
   go_wp2_with fail;refine(ay R _ 3 _ C.st.rd (by omega) (by omega) (by omega)).P ?_;rintro e f⟨y,rfl,y0,ZN,hR,h⟩;replace C:=ae (C.ac h hR);clear h hR;go_wp2_with fail;obtain⟨m0,s⟩:∃m0:Nat,200+y - 1=(m0:Int):=⟨(200+y - 1).toNat,by omega⟩
   rw[s];refine(wZ m0 _ (by omega)).P ?_;rintro e W8⟨LW,gW,rfl,l,lq,ZW,b⟩;have C8:=ae (SC.di C.st l (n:=140) (by omega) ZW (zt.l b) (C.st.rd.aa b ly));clear l ZW b s;go_wp2;go_meet;exact⟨LW,gW,7,_,by rw[lq],by omega,C8⟩
 case rest =>
 clear C;obtain⟨L,g,c,q7,rfl,hq7,C⟩:=hcut;go_upto_if 84 with fail;go_cut [3] (λm j=>∃(L:List I3) (g c q:Nat),m=Y (Q (T g 0 Z)) (z L) c/\q<=q7/\Hid (SC w R (A (B w)) j q g c L 140));case first =>
  by_cases hz:ZX=5
  ·subst hz;iterate 2
    go_wp2_with fail;with_reducible first|refine(bq _ _).P ?_|refine(bS _ _ _).P ?_|refine(bC _ _).P ?_
    rintro e f⟨rfl,b⟩;replace C:=ae (C.aa b);clear b
   have ZV:=ae (SC.lit C.st [(1,[115],0),(10,[],0)] #[J I 1,U ⟨#[115]⟩,J I 0,J I 10,U ⟨#[]⟩,J I 0] rfl 2 rfl (by omega) (by decide));go_wp2;go_meet;exact⟨_,_,_,_,rfl,by omega,ZV.up (by omega)⟩
  {go_wp2;go_meet;exact⟨L,g,c,_,rfl,by omega,C.up (by omega)⟩}
 case rest =>
 clear C;obtain⟨L,g,c,ZP,rfl,hq8,C⟩:=hcut;have ln:=C.len;have ge:=C.ir.lt;go_wp2_with fail;refine(gy g 0 (z L) c (cY L) _ (by omega) ge.2 (λi hi=>C.ir.at i (by omega)) (λi hi=>GV C.2.2.2 i (by omega))).P ?_;rintro e Wv⟨rfl,b⟩;have ZQ:=ae (C.aa b);clear b;cases hv:valid (cY L) (z L) with
 |true =>
  have vp:=(bJ hv).2.1;clear hv;have o:=ZQ.st.2.2.1;have zl:=o.lt;have d0:=o.c0;have d1:=o.fz 0;have fin:=ae (ZQ.fin (Y (Q (T g 0 Z)) (z L) c));clear o;go_wp2;obtain⟨f1,ZR,f3,H,G,M⟩:=fin.i;try simp only[Exit.inBlock,Exit.then]
  refine bp (gN rfl _ _ (A (B w)) _ rfl f1) rfl ?_;exact⟨L,g,c,rfl,ZR,by omega,by omega,H,ZP,by omega,G,M⟩
 |false =>
  clear hv;replace C:=ZQ;iterate 2
   go_wp2_with fail;with_reducible first|refine(bq _ _).P ?_|refine(bS _ _ _).P ?_|refine(bC _ _).P ?_
   rintro e f⟨rfl,b⟩;replace C:=ae (C.aa b);clear b
  have CC:=ae (SC.lit C.st [(1,[120],0),(15,[],0)] #[J I 1,U ⟨#[120]⟩,J I 0,J I 15,U ⟨#[]⟩,J I 0] rfl 2 rfl (by omega) (by decide));have o:=CC.st.2.2.1;have zl:=o.lt;have d0:=o.c0;have d1:=o.fz 0;have fin:=ae (CC.fin (Y (Q (T (A (B f)) 0 Z)) 2 2));clear o;go_wp2;obtain⟨f1,ZR,f3,H,G,M⟩:=fin.i;try simp only[Exit.inBlock,Exit.then]
  refine bp (gN rfl _ _ (A (B w)) _ rfl f1) rfl ?_;exact⟨[(1,[120],0),(15,[],0)],A (B f),2,rfl,ZR,by simp,by simp,H,ZP,by omega,G,M⟩
def uw:∀(L:List I3) (i:Nat) (y:I3) (j:Nat) (v:ZB),j<3->i<z L->i3V y=(i3V (L.getD i (0,[],0))).set j v->i3L (L.set i y)=(i3L L).set (i*3+j) v
 |[],i,y,j,v,_,h,_=>by simp at h
 |x::L,0,y,j,v,hj,_,e=>by show i3V y++i3L L=(i3V x++i3L L).set (0*3+j) v;rw[WW _ _ (by show 0*3+j<3;omega),UR,IT];rw[show i3V y=(i3V x).set j v from e]
 |x::L,i+1,y,j,v,hj,h,e=>by have f:=uw L i y j v hj (by simpa using h) e;have b:(i3V x).length=3:=rfl;show i3V x++i3L (L.set i y)=(i3V x++i3L L).set ((i+1)*3+j) v;rw[f,T9 _ _ (by rw[b];omega),b,show(i+1)*3+j - 3=i*3+j by omega]
def IR.set3{c:Nat}(h:IR w b g c L)(hi:i<z L)(m:j<3)(y:I3)(v:ZB)(e:i3V y=(i3V (L.getD i (0,[],0))).set j v):IR (ZU w (T g (i*3+j) Z) v) b g c (L.set i y):=by
 unfold IR;rw[NI,uw L i y j v m hi e];refine⟨by rw[NI];exact h.1,?_⟩;rcases h.2 with⟨f,h0⟩|⟨g',j_,l,f,hb,p,h1,h2,n,o⟩
 {simp at f};{simp only[IN,L8,RJ] at f;obtain⟨⟨rfl,-⟩,-,rfl⟩:=f;refine .inr ⟨g,c,l.setIfInBounds (i*3+j) v,rfl,hb,?_,h1,h2,by simpa using n,?_⟩;{simp[World.setCell,NQ,p]};{rw[RY,YV,o]}}
def IR.take{c:Nat}(h:IR w b g c L)(k:Nat)(j:k<=z L):IR w b g c (L.take k):=by
 have e:i3L (L.take k)=(i3L L).take (k*3):=by
  have h1:i3L L=i3L (L.take k)++i3L (L.drop k):=by rw[<-rB,QN]
  have h2:(i3L (L.take k)).length=k*3:=by rw[jA,N9,QL j]
  rw[h1,<-h2,List.take_left'];rfl
 have l:(L.take k).length=k:=by rw[N9,QL j]
 unfold IR;rw[e,l];refine⟨by rw[N9,h.1,QL (by omega)],?_⟩;rcases h.2 with⟨f,h0⟩|⟨g',j_,i,f,hb,o,h1,h2,m,n⟩
 {simp at f};{simp only[IN,L8,RJ] at f;obtain⟨⟨rfl,-⟩,-,rfl⟩:=f;refine .inr ⟨g,c,i,rfl,hb,o,by omega,h2,m,?_⟩;rw[<-n,List.take_take,QL (by omega)]}
def IR.fz{c:Nat}(h:IR w f g c L)(j:Nat):w.frozen? (T g j Z)=ZA:=by
 rcases h.2 with⟨b,_⟩|⟨g',j_,cur,b,_,i,_⟩
 {simp at b};{simp only[IN,L8,RJ] at b;obtain⟨⟨rfl,-⟩,-,rfl⟩:=b;exact YD i _}
def SC.set3{c:Nat}(h:SC w R rb W q g c L n)(hi:i<z L)(b:j<3)(y:I3)(v:ZB)(e:i3V y=(i3V (L.getD i (0,[],0))).set j v)(l:y.2.1.length<=5000):SC w R rb (ZU W (T g (i*3+j) Z) v) q g c (L.set i y) n:=by
 have ZW:=(a8 (rb+1) W).setCell (p:=(T g (i*3+j) Z)) h.ir.lt.1 v;refine⟨h.1.low ZW,h.ir.set3 hi b y v e,by rw[NI];exact h.len,λx f=>?_⟩;rcases ON f with h1|h1;{exact h.2.2.2 x h1};{rw[h1];exact l}
def SC.take{c:Nat}(h:SC w R rb W q g c L n)(k:Nat)(b:k<=z L):SC w R rb W q g c (L.take k) n:=
 ⟨h.1,h.ir.take k b,by rw[N9];have:=h.len;omega,λi hi=>h.2.2.2 i (QW hi)⟩
def SC.app0{c:Nat}(h:SC w R rb W q g c L n)(b:IR W' (rb+1) g' c' (L++M))(l:W.grownBy W' (Q g))(hn:z L+z M<=n')(f:∀i∈M,i.2.1.length<=5000):SC w R rb W' q g' c' (L++M) n':=by
 have hl:=h.1.lt;have j:=bg (a8 (rb+1) W) l (by omega) (λk e=>by have:=h.2.1.lt;simp at e;omega);refine⟨h.1.low j,b,by rw[cM];omega,λi hi=>?_⟩;rcases p8.1 hi with hi|hi;{exact h.2.2.2 i hi};{exact f i hi}
def SC.P{c:Nat}(h:SC w R rb W q g c L n)(hn:z L<=b):SC w R rb W q g c L b:=⟨h.1,h.2.1,hn,h.2.2.2⟩
def SC.H{c:Nat}(h:SC w R rb W q g c L n)(i:Nat)(hi:i<z L):(L.getD i (0,[],0)).2.1.length<=5000:=by
 have e:L.getD i (0,[],0)=L[i]:=by simp[hi]
 rw[e];exact h.2.2.2 _ (gz hi)
def sC (h:Rd w R q)(v:ZB):SC w R (A (B w)+1) (((w.alloc (N #[v] 37)).alloc (N #[Y Z 0 0] 37)).alloc (N #[] 102)) q (A (B w)+2) 0 [] 0:=by
 have f:=(BS w).alloc ly (N #[v] 37);have b:=f.alloc f.size (N #[Y Z 0 0] 37);have g:=b.alloc b.size (N #[] 102);have hz:((w.alloc (N #[v] 37)).alloc (N #[Y Z 0 0] 37)).heap.size=A (B w)+2:=by simp
 have ZS:=IR.lit ((w.alloc (N #[v] 37)).alloc (N #[Y Z 0 0] 37));rw[hz] at ZS;refine⟨⟨h.aa g ly,zt.l g,?_,h.lt,by omega⟩,ZS,p7 _,λi hi=>by cases hi⟩;show _=_;rw[UK _ _ (by simp)];exact SL w _ _
