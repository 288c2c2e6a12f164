import Derived.Test.YthkgkfehliinfaaGreatDoorEE
import Derived.Test.YthkgkfehliinfaaGreatDoorEO
import Derived.Deep.AppendLies
set_option linter.all false
set_option maxRecDepth 100000
set_option maxHeartbeats 8000000
open Go renaming Addr.mk->Q,Value.slice->Y,Value.string->U,Value.int->J,Value.bool->ZF,Value.agg->ZJ,Obj.cells->N,IntKind.i64->I,World->E,Value->ZB,Ending.returned->ZI,World.heap->B,World.ownsRow->ZY,World.alloc->ZV,World.cell?->ZW,World.frozen?->ZX,World.setCell->z
open Option renaming none->Z,some->T
open Bool renaming false->ZA,true->ZH
open Array renaming size->A
open List renaming length->ZU
namespace Go.Proofs.YthkgkfehliinfaaGreatDoor.Vp
open Tryz RowKit Ca
variable {w W w0 w':E}{base g n j R b q X ZP i:Nat}{a:O_}{D:List DR}{f:Nat->Link}{u v0 v1 v2 v3 v4:ZB}{r:DR}{y:Link}
def LBx (W:E)(b:Nat)(v0 v1 v2 v3 v4 v5:ZB):Prop:=W.heap[b]?=T (N #[v0,v1,v2,v3,v4,v5] 58 (0,0))
section
variable {W W':E}{b:Nat}{v0 v1 v2 v3 v4 v5:ZB}
def LBx.lt (h:LBx W b v0 v1 v2 v3 v4 v5):b<A (B W):=aj h
def LBx.cells (h:LBx W b v0 v1 v2 v3 v4 v5):ZW W (Q b 0 Z)=T v0/\ZW W (Q b 1 Z)=T v1/\ZW W (Q b 2 Z)=T v2/\ZW W (Q b 3 Z)=T v3/\ZW W (Q b 4 Z)=T v4/\ZW W (Q b 5 Z)=T v5:=by have f:W.heap[b]?=T (N #[v0,v1,v2,v3,v4,v5] 58 (0,0)):=h;refine⟨?_,?_,?_,?_,?_,?_⟩<;>simp[World.cell?,f]
def LBx.fz (h:LBx W b v0 v1 v2 v3 v4 v5)(j:Nat):ZX W (Q b j Z)=ZA:=by have f:W.heap[b]?=T (N #[v0,v1,v2,v3,v4,v5] 58 (0,0)):=h;simp[World.frozen?,f]
def LBx.ad (h:LBx W b v0 v1 v2 v3 v4 v5)(e:W'.heap[b]?=W.heap[b]?):LBx W' b v0 v1 v2 v3 v4 v5:=e.k h
def LBx.set5 (h:LBx W b v0 v1 v2 v3 v4 v5)(u:ZB):LBx (z W (Q b 5 Z) u) b v0 v1 v2 v3 v4 u:=by have f:W.heap[b]?=T (N #[v0,v1,v2,v3,v4,v5] 58 (0,0)):=h;show(z W (Q b 5 Z) u).heap[b]?=_;simp[World.setCell,NR,f]
end
def Dl{b:Type}(f:Nat->b)(n k:Nat)(y:b):((List.range n).map f).set k y=(List.range n).map (λi=>if i=k then y else f i):=by
 refine UG λi=>?_;rw[List.getElem?_set,L8,L8];by_cases hi:i<n;{by_cases e:k=i;{subst e;simp[hi]};{have g:¬ i=k:=λh=>e h.c;simp[hi,e,g]}};{by_cases e:k=i;{subst e;simp[hi]};{simp[hi,e]}}
def yF{c k:Nat}(h:ZY w base 74 4 (Y (T (Q g 0 Z)) n c) n (cy f n))(m:k<n)(o:j<4)(l:du y=(du (f k)).set j u):(z w (Q g (k*4+j) Z) u).ownsRow base 74 4 (Y (T (Q g 0 Z)) n c) n (cy (λi=>if i=k then y else f i) n):=by have b:=gU (j:=k*4+j) h u;have e:=ku du 4 (λ_=>rfl) o l ((List.range n).map f) k (by simp[m]);rw[Dl] at e;unfold cy at b ⊢;rw[e] at b;exact b
def cZ{c k:Nat}(h:ZY w base 74 4 (Y (T (Q g 0 Z)) n c) n (cy f n))(i:k<n)(l:j<4)(b:(du (f k))[j]?=T u):ZW w (Q g (k*4+j) Z)=T u/\ZX w (Q g (k*4+j) Z)=ZA:=
 bA h (j:=k*4+j) (by rw[jJ f i j l];exact b)
def Il{size c:Nat}{e:TypeId}{j:List ZB}(h:ZY w base e size (Y (T (Q g 0 Z)) n c) n j):base<=g/\∃f,w.heap[g]?=T (N f e (0,0)):=by
 rcases h.2 with⟨b,_⟩|⟨g',j_,cur,b,hb,i,_⟩
 {cases b}
 ·cases b
  exact⟨hb,_,i⟩
structure LStD (w0 w:E)(R base g0:Nat)(v0 v1 v2 v3 v4:ZB)(W:E)(q g n c:Nat)(f:Nat->Link):Prop where
 bx:LBx W (A (B w)) v0 v1 v2 v3 v4 (Y (T (Q g 0 Z)) n c)
 rs:LBx W (A (B w)+1) (U ⟨#[]⟩) (J I 0) (J I 0) (U ⟨#[]⟩) (Y Z 0 0) (Y Z 0 0)
 rd:Rd W R q
 y:ZY W base 74 4 (Y (T (Q g 0 Z)) n c) n (cy f n)
 on:zd R w0 W
 same:∀k,k<A (B w)->k≠R->k≠g0->W.heap[k]?=w.heap[k]?
 gg:g=g0\/(A (B w))<=g
 nm:∀j,j<n->(f j).e.size<=5000
 hR:R<A (B w0)
 hb:A (B w0)<=base
 hbw:base<=A (B w)
section
variable {w0 w W W':E}{R base g0 q q' g n c:Nat}{v0 v1 v2 v3 v4:ZB}{f:Nat->Link}
def LStD.lt (h:LStD w0 w R base g0 v0 v1 v2 v3 v4 W q g n c f):A (B w)+2<=A (B W):=h.rs.lt
def LStD.ac (h:LStD w0 w R base g0 v0 v1 v2 v3 v4 W q g n c f)(b:zd R W W')(m:Rd W' R q'):LStD w0 w R base g0 v0 v1 v2 v3 v4 W' q' g n c f:=by have h1:=h.hR;have h2:=h.hb;have l:=h.hbw;have h4:=h.lt;exact⟨h.bx.ad (b.p _ h.bx.lt (by omega)),h.rs.ad (b.p _ h.rs.lt (by omega)),m,gE h.y b (by omega),h.on.k b,λk o i j=>(b.p k (by omega) i).k (h.same k o i j),h.gg,h.nm,h1,h2,l⟩
def LStD.aa (h:LStD w0 w R base g0 v0 v1 v2 v3 v4 W q g n c f)(b:Below (A (B W)) W W'):LStD w0 w R base g0 v0 v1 v2 v3 v4 W' q g n c f:=h.ac (zd.q b) (h.rd.aa b ly)
def LStD.gne (h:LStD w0 w R base g0 v0 v1 v2 v3 v4 W q g n c f):g≠A (B w)/\g≠A (B w)+1/\base<=g/\g<A (B W):=by
 obtain⟨hb,cs,b⟩:=Il h.y;refine⟨λe=>?_,λe=>?_,hb,aj b⟩;{have:=h.bx;unfold LBx at this;rw[<-e,b] at this;cases this};{have:=h.rs;unfold LBx at this;rw[<-e,b] at this;cases this}
def LStD.setL{k:Nat}(h:LStD w0 w R base g0 v0 v1 v2 v3 v4 W q g n c f)(ZZ:k<n)(t:j<4)(s:du y=(du (f k)).set j u)(C:y.e.size<=5000):LStD w0 w R base g0 v0 v1 v2 v3 v4 (z W (Q g (k*4+j) Z) u) q g n c (λi=>if i=k then y else f i):=by
 obtain⟨Z9,x,Z8,e4⟩:=h.gne;have h1:=h.hR;have h2:=h.hb;have r:Below base W (z W (Q g (k*4+j) Z) u):=br.setCell (p:=(Q g (k*4+j) Z)) Z8 u;have far:∀m,m≠g->(z W (Q g (k*4+j) Z) u).heap[m]?=W.heap[m]?:=λm l=>qh W (Q g (k*4+j) Z) u m (by simpa using l);refine⟨h.bx.ad (far _ (λe=>Z9 e.c)),h.rs.ad (far _ (λe=>x e.c)),h.rd.low r (by omega),yF h.y ZZ t s,h.on.then (r.P h2),λm l o b=>(far m ?_).k (h.same m l o b),h.gg,λi hi=>?_,h1,h2,h.hbw⟩;{rcases h.gg with e|e;{rw[e];exact b};{omega}};{show(if i=k then y else f i).e.size<=5000;split;{exact C};{exact h.nm i hi}}
def LStD.setB{n1 c1:Nat}{f1:Nat->Link}(h:LStD w0 w R base g0 v0 v1 v2 v3 v4 W q g n c f)(i:W.grownBy W' (T g))(Z8:ZY W' base 74 4 (Y (T (Q b 0 Z)) n1 c1) n1 (cy f1 n1))(y:b=g\/(A (B w))<=b)(hn:∀j,j<n1->(f1 j).e.size<=5000):LStD w0 w R base g0 v0 v1 v2 v3 v4 (z W' (Q (A (B w)) 5 Z) (Y (T (Q b 0 Z)) n1 c1)) q b n1 c1 f1:=by
 obtain⟨D,ZZ,ZT,e4⟩:=h.gne;have h1:=h.hR;have h2:=h.hb;have s:=h.hbw;have h4:=h.lt;have hw0:=h.on.size;have Z9:Below base W W':=bg br i (by omega) (λj e=>by cases e;exact ZT);have x:Below base W (z W' (Q (A (B w)) 5 Z) (Y (T (Q b 0 Z)) n1 c1)):=Z9.setCell (p:=(Q (A (B w)) 5 Z)) s _;have o:LBx W' (A (B w)) v0 v1 v2 v3 v4 (Y (T (Q g 0 Z)) n c):=h.bx.ad (i.p _ h.bx.lt (by simpa using λe=>D e.c));have u:=h.rs.ad (i.p _ h.rs.lt (by simpa using λe=>ZZ e.c));have far:∀m,m≠A (B w)->(z W' (Q (A (B w)) 5 Z) (Y (T (Q b 0 Z)) n1 c1)).heap[m]?=W'.heap[m]?:=λm r=>qh W' (Q (A (B w)) 5 Z) _ m (by simpa using r);refine⟨o.set5 _,u.ad (far _ (by omega)),h.rd.low x (by omega),dJ Z8 o (by decide) _,h.on.then (x.P h2),λm r t l=>?_,?_,hn,h1,h2,s⟩
 ·refine(far m (by omega)).k ((i.p m (by omega) ?_).k (h.same m r t l));rcases h.gg with e|e;{simpa[e] using l}
  ·intro C;have:m=g:=by simpa using C
   omega
 {rcases y with e|e;{rw[e];exact h.gg};{exact .inr e}}
end
def qS (W:E)(r:Option Nat):W.grownBy W r:=⟨rfl,rfl,rfl,p7 _,λ_ _ _=>rfl⟩
def Im{p c:Nat}(o:zd R w0 w)(hR:R<A (B w0))(hb:A (B w0)<=base)(hbw:base<=A (B w))(m:Rd w R p)(l:ZY w base 74 4 (Y (T (Q g 0 Z)) n c) n (cy f n))(i:∀j,j<n->(f j).e.size<=5000):LStD w0 w R base g v0 v1 v2 v3 v4 (ZV (ZV w (N #[v0,v1,v2,v3,v4,Y (T (Q g 0 Z)) n c] 58)) (N #[U ⟨#[]⟩,J I 0,J I 0,U ⟨#[]⟩,Y Z 0 0,Y Z 0 0] 58)) p g n c f:=by
 have b:=(BS w).alloc ly (N #[v0,v1,v2,v3,v4,Y (T (Q g 0 Z)) n c] 58);have hz:A (B (ZV w (N #[v0,v1,v2,v3,v4,Y (T (Q g 0 Z)) n c] 58)))=A (B w)+1:=by simp
 have h:=(a8 (A (B (ZV w (N #[v0,v1,v2,v3,v4,Y (T (Q g 0 Z)) n c] 58)))) (ZV w (N #[v0,v1,v2,v3,v4,Y (T (Q g 0 Z)) n c] 58))).alloc ly (N #[U ⟨#[]⟩,J I 0,J I 0,U ⟨#[]⟩,Y Z 0 0,Y Z 0 0] 58);have ZZ:=b.k (h.P b.size);have h2:=gM (ZV w (N #[v0,v1,v2,v3,v4,Y (T (Q g 0 Z)) n c] 58)) (N #[U ⟨#[]⟩,J I 0,J I 0,U ⟨#[]⟩,Y Z 0 0,Y Z 0 0] 58);rw[hz] at h2;exact⟨(h.p (A (B w)) (by rw[hz];omega)).k (gM w _),h2,m.aa ZZ ly,J_ l ZZ ly,o.k (zd.q ZZ),λk q _ _=>ZZ.p k q,.inl rfl,i,hR,hb,hbw⟩
def LBx.six{u0 u1 u2 u3 u4 u5:ZB}(h:LBx W b u0 u1 u2 u3 u4 u5)(v0 v1 v2 v3 v4 v5:ZB):LBx (z (z (z (z (z (z W (Q b 0 Z) v0) (Q b 1 Z) v1) (Q b 2 Z) v2) (Q b 3 Z) v3) (Q b 4 Z) v4) (Q b 5 Z) v5) b v0 v1 v2 v3 v4 v5:=by have f:W.heap[b]?=T (N #[u0,u1,u2,u3,u4,u5] 58 (0,0)):=h;show(z (z (z (z (z (z W (Q b 0 Z) v0) (Q b 1 Z) v1) (Q b 2 Z) v2) (Q b 3 Z) v3) (Q b 4 Z) v4) (Q b 5 Z) v5).heap[b]?=_;simp[World.setCell,NR,f]
def rX (W:E)(b m:Nat)(v0 v1 v2 v3 v4 v5:ZB)(f:m≠b):(z (z (z (z (z (z W (Q b 0 Z) v0) (Q b 1 Z) v1) (Q b 2 Z) v2) (Q b 3 Z) v3) (Q b 4 Z) v4) (Q b 5 Z) v5).heap[m]?=W.heap[m]?:=by have far:∀(V:E) (j:Nat) (u:ZB),(z V (Q b j Z) u).heap[m]?=V.heap[m]?:=λV j u=>qh V (Q b j Z) u m (by simpa using f);rw[far,far,far,far,far,far]
def tk (W:E)(b Z8:Nat)(v0 v1 v2 v3 v4 v5:ZB)(f:Z8<=b):Below Z8 W (z (z (z (z (z (z W (Q b 0 Z) v0) (Q b 1 Z) v1) (Q b 2 Z) v2) (Q b 3 Z) v3) (Q b 4 Z) v4) (Q b 5 Z) v5):=
 ((((((a8 Z8 W).setCell (p:=(Q b 0 Z)) f v0).setCell (p:=(Q b 1 Z)) f v1).setCell (p:=(Q b 2 Z)) f v2).setCell (p:=(Q b 3 Z)) f v3).setCell (p:=(Q b 4 Z)) f v4).setCell (p:=(Q b 5 Z)) f v5
def DL (ZQ:Nat)(w0 w:E)(R base g0:Nat)(v0 v1 v2 v3 v4:ZB)(q:Nat)(e:Ending)(b:E):Prop:=∃(g n c:Nat) (f:Nat->Link),e=ZI (ZJ #[v0,v1,v2,v3,v4,Y (T (Q g 0 Z)) n c])/\ZY b base 74 4 (Y (T (Q g 0 Z)) n c) n (cy f n)/\n<=ZQ+1/\(∀j,j<n->(f j).e.size<=5000)/\(∃q':Nat,q'<=q/\Rd b R q')/\zd R w0 b/\∀k,k<A (B w)->k≠R->k≠g0->b.heap[k]?=w.heap[k]?
def LStD.fin{ZQ:Nat}{g0 c:Nat}(h:LStD w0 w R base g0 v0 v1 v2 v3 v4 W q g n c f)(hn:n<=ZQ+1)(m:q<=ZP)(u0 u1 u2 u3 u4 u5:ZB):DL ZQ w0 w R base g0 v0 v1 v2 v3 v4 ZP (ZI (ZJ #[v0,v1,v2,v3,v4,Y (T (Q g 0 Z)) n c])) (z (z (z (z (z (z W (Q (A (B w)+1) 0 Z) u0) (Q (A (B w)+1) 1 Z) u1) (Q (A (B w)+1) 2 Z) u2) (Q (A (B w)+1) 3 Z) u3) (Q (A (B w)+1) 4 Z) u4) (Q (A (B w)+1) 5 Z) u5):=by
 obtain⟨e1,o,e3,e4⟩:=h.gne;have h1:=h.hR;have h2:=h.hb;have h3:=h.hbw;have i:=tk W (A (B w)+1) base u0 u1 u2 u3 u4 u5 (by omega);refine⟨g,n,c,f,rfl,ew h.y λk b _=>rX _ _ _ _ _ _ _ _ _ ?_,hn,h.nm,⟨q,m,h.rd.low i (by omega)⟩,h.on.then (i.P h2),λk b l j=>(rX _ _ _ _ _ _ _ _ _ (by omega)).k (h.same k b l j)⟩;have:k=g:=by simpa[Value.ownBlock] using b.c
 rw[this];exact o
variable {K:Nat}
def atD (x:au)(j:Nat)(Z9:Int):au:={ x with l:=λi=>if i=j then { x.l j with G:=Z9 } else x.l i }
def FitK.G{x:au}(h:FitK K x)(b:j<x.f)(Z9:Int):FitK K (atD x j Z9):=by
 refine⟨h.nm,h.tx,h.an,h.asz,h.ln,λi hi=>?_⟩;show(if i=j then { x.l j with G:=Z9 } else x.l i).e.size<=5000;split;{exact h.lsz j b};{exact h.lsz i hi}
def SpS.az{c f cl:Nat}(h:SpS K w R X W q a c D)(ZN:(D.map (·.2.2)).Pairwise Apt)(ZQ:D[i]?=T r)(C:r.2.2=Y (T (Q f 0 Z)) r.1.f cl)(V:j<r.1.f)(Z9:Int):SpS K w R X (z W (Q f (j*4+3) Z) (J I Z9)) q a c (D.set i (atD r.1 j Z9,r.2)):=by
 have ZZ:=I5 ZQ;have hlo:=h.lo;have hX:=h.hX;have hn:(D.set i (atD r.1 j Z9,r.2)).length=ZU D:=NJ;obtain⟨cl2,zl,ZR⟩:=fS (h.row.sub r ZZ).az f (by rw[C];rfl);have P:A (B w)+2<=f:=((h.row.sub r ZZ).az.lt f (by rw[C];rfl)).1;have O:X≠f:=λe=>by have:=h.bx;rw[e,ZR] at this;simp at this
 have Z8:=(a8 (A (B w)+2) W).setCell (p:=(Q f (j*4+3) Z)) P (J I Z9);have far:∀m,m≠f->(z W (Q f (j*4+3) Z) (J I Z9)).heap[m]?=W.heap[m]?:=λm l=>qh _ _ _ _ l;have M:∀m e,OfTy W m e->e≠74->m≠f:=λm e n ZM t=>by obtain⟨c0,z0,g⟩:=n;rw[t,ZR] at g;simp at g;exact ZM g.2.1.c
 have S:(D.set i (atD r.1 j Z9,r.2)).flatMap ddV=D.flatMap ddV:=by
  have e:∀(L:List DR) (i:Nat),L[i]?=T r->(L.set i (atD r.1 j Z9,r.2)).flatMap ddV=L.flatMap ddV:=by
   intro L;induction L with
   |nil=>intro i g;simp at g
   |cons x L ih =>
    intro i g;cases i with
    |zero =>
     obtain rfl:x=r:=by simpa using g
     rfl
    |succ i =>
     have h1:L[i]?=T r:=by simpa using g
     rw[VA,N9,N9,ih i h1]
  exact e D i ZQ
 refine⟨h.rd.low Z8 (by omega),h.o.then (Z8.P (by omega)),(Z8.p _ (by omega)).k h.rs,?_,⟨?_,λs hs=>?_⟩,oI h.aq ((h.aq r ZZ).G V Z9),h.lo,h.hX,by rw[hn];exact h.num⟩;{rw[hn];exact(far X O).k h.bx};{rw[hn,S];exact ew h.row.y λm _ n=>far m (M m _ n (by decide))}
 ·obtain⟨k,hi⟩:=PE hs;by_cases e:k=i;{subst e;rw[PH (by rw[<-hn];exact(j5.1 hi).1)] at hi;obtain rfl:=IH hi;refine⟨ew (h.row.sub r ZZ).u λm _ n=>far m (M m _ n (by decide)),?_⟩;have ZO:=(h.row.sub r ZZ).az;show World.ownsRow _ _ _ _ r.2.2 r.1.f (cy (atD r.1 j Z9).l r.1.f);rw[C] at ZO ⊢;exact yF ZO V (by omega) rfl}
  ·rw[Q2 (λt=>e t.c)] at hi;have ZL:=I5 hi;refine(h.row.sub s ZL).far (λm _ n=>far m (M m _ n (by decide))) λm l _=>far m λt=>?_;obtain⟨G,ZT⟩:=j5.1 hi;obtain⟨ZS,H⟩:=j5.1 ZQ;have y:r.2.2.ownBlock=T f:=by rw[C];rfl
   have ZP:=D0.1 ZN;rcases YO e with u|u;{have b:=ZP k i (by simpa using G) (by simpa using ZS) u;rw[TJ,TJ,ZT,H] at b;rcases b with b|b;{rw[l] at b;cases b};{exact b (by rw[l,y,t])}};{have b:=ZP i k (by simpa using ZS) (by simpa using G) u;rw[TJ,TJ,ZT,H] at b;rcases b with b|b;{rw[y] at b;cases b};{exact b (by rw[l,y,t])}}
def Gg (b:D[i]?=T r)(x:au):(D.set i (x,r.2)).map (·.2)=D.map (·.2):=by
 rw[List.map_set];refine UG λk=>?_;by_cases e:k=i;{subst e;rw[PH (by rw[PJ];exact(j5.1 b).1),L8,b];rfl};{rw[Q2 (λf=>e f.c)]}
def SpS.aside{c:Nat}{t:Array ZB}{Z9:Nat × Nat}(h:SpS K w R X W q (T (Q g 0 Z)) c D)(hb:A (B w)+2<=b)(hX:b≠X)(l:b≠g)(hF:W.heap[b]?=T (N t 58 Z9))(v0 v1 v2 v3 v4 v5:ZB):SpS K w R X (z (z (z (z (z (z W (Q b 0 Z) v0) (Q b 1 Z) v1) (Q b 2 Z) v2) (Q b 3 Z) v3) (Q b 4 Z) v4) (Q b 5 Z) v5) q (T (Q g 0 Z)) c D:=by
 have hlo:=h.lo;have Z8:=tk W b (A (B w)+2) v0 v1 v2 v3 v4 v5 hb;have far:=λm=>rX W b m v0 v1 v2 v3 v4 v5;have j:∀m e,OfTy W m e->e≠58->m≠b:=λm e f r n=>by obtain⟨c0,z0,i⟩:=f;rw[n,hF] at i;simp at i;exact r i.2.1.c
 refine⟨h.rd.low Z8 (by omega),h.o.then (Z8.P (by omega)),(Z8.p _ (by omega)).k h.rs,(far X (λe=>hX e.c)).k h.bx,⟨ew h.row.y λm p _=>?_,λs u=>(h.row.sub s u).far (λm _ f=>far m (j m _ f (by decide))) (λm _ f=>far m (j m _ f (by decide)))⟩,h.aq,h.lo,h.hX,h.num⟩;obtain rfl:g=m:=by simpa[Value.ownBlock] using p
 exact far g λe=>l e.c
def mJ (nm tx:F_)(b:Int):DR:=({ fG with e:=nm,m:=b,H:=tx },Y Z 0 0,Y Z 0 0)
def wu{nm tx:F_}(f:Int)(h1:nm.size<=5000)(h2:tx.size<=2000+K):FitK K (mJ nm tx f).1:=⟨h1,h2,DW _,λj b=>absurd b (by simp[mJ,fG]),DW _,λj b=>absurd b (by simp[mJ,fG])⟩
def Gh (w:E)(base:Nat)(nm tx:F_)(b:Int):DSub w base (mJ nm tx b):=⟨CP _ _ _ _,CP _ _ _ _⟩
def Jd (h:D.Pairwise λa b=>Apt a.2.1 b.2.1/\Apt a.2.2 b.2.2)(nm tx:F_)(f:Int):((mJ nm tx f::D).map (·.2.2)).Pairwise Apt:=by rw[T7,P9];exact⟨λx _=>.inl rfl,List.pairwise_map.2 (h.imp λh=>h.2)⟩
def GL:Prop:=∀(m:Nat) (w:E),m<=61->Calls Tryz.prog 68 #[J I m] w λe b=>∃(a:O_) (n c:Nat) (f:Nat->au),e=ZI (ZJ #[Y a n c])/\HAc (A (B w)) b a n c f/\Below (A (B w)) w b/\n<=450/\∀i,i<n->FitK 0 (f i)
def SpS.other{W':E}{c c':Nat}{a':O_}{f:Nat->au}(h:SpS K w R X W q a c D)(j:Below (A (B W)) W W')(hH:HAc (A (B W)) W' a' b c' f)(hn:b<=450)(l:∀i,i<b->FitK 0 (f i))(n:q<=ZP):DAK K w R ZP (ZI (ZJ #[Y a' b c'])) (z W' (Q (A (B w)+1) 0 Z) (Y a' b c')):=by
 have g:=h.aa j;have hl:=h.lo;have hx:=h.lt;have hX:=h.hX;have Z8:=(a8 (A (B w)) W').setCell (p:=(Q (A (B w)+1) 0 Z)) (BV _) (Y a' b c');have m:Agr (A (B W)) W' (z W' (Q (A (B w)+1) 0 Z) (Y a' b c')):=⟨by simp,λk h1 _=>qh _ _ _ _ (by show k≠A (B w)+1;omega)⟩
 exact⟨a',b,c',f,rfl,(hH.agr m).P (by omega),⟨q,n,g.rd.low Z8 h.lo,g.o.then Z8⟩,by omega,λi hi=>(l i hi).up (DW _)⟩
structure LSub (w:E)(base:Nat)(r:DR):Prop where
 u:r.1.h=0/\(∃c,r.2.1=Y Z 0 c)\/∃g c,r.2.1=Y (T (Q g 0 Z)) r.1.h c/\Q_ w g 0 r.1.h r.1.u/\Qz w g 124/\base<=g
 az:ZY w base 74 4 r.2.2 r.1.f (cy r.1.l r.1.f)
structure LRw (w:E)(base:Nat)(v:ZB)(R:List DR):Prop where
 y:ZY w base 58 6 v (ZU R) (R.flatMap ddV)
 sub:∀r∈R,LSub w base r
def LSub.ad (h:LSub w base r)(hz:A (B w)<=A (B w'))(hb:∀k,OfTy w k 124\/OfTy w k 74->base<=k->w'.heap[k]?=w.heap[k]?):LSub w' base r:=by
 refine⟨?_,ew h.az λk l j=>hb k (.inr j) (h.az.lt k l).1⟩;rcases h.u with h1|⟨g,c,e,h2,b,f⟩
 {exact .inl h1};{have i:w'.heap[g]?=w.heap[g]?:=hb g (.inl (by obtain⟨n,m⟩:=b;exact⟨n,_,m⟩)) f;exact .inr ⟨g,c,e,h2.p hz i,b.p i,f⟩}
def LRw.agr{V:E}{v:ZB}{R:List DR}(h:LRw w base v R)(b:Agr base w V):LRw V base v R:=
 ⟨fk h.y b,λr g=>(h.sub r g).ad b.1 λk f hb=>b.2 k hb (by rcases f with⟨c,Z9,e⟩|⟨c,Z9,e⟩<;>exact aj e)⟩
def LRw.bd{c:Nat}{R:List DR}(h:LRw w base (Y a (ZU R) c) R):SlDeed w a (ZU R) (dF (R.map (·.1))):=by
 by_cases hz:ZU R=0;{exact .inl hz}
 ·obtain⟨g,c',e⟩:=dr h.y (by omega);cases e
  refine .inr ⟨g,0,rfl,(cV h.y).2,λi hi=>?_⟩;obtain⟨r,b,f⟩:=dG hi;rw[iM b];have c:∀j,j<6->∀u,(ddV r)[j]?=T u->ZW w (Q g (0+i*6+j) Z)=T u:=λj p u m=>by rw[show 0+i*6+j=i*6+j by omega];exact(iU h.y b j p m).1
  have o:DSub w base ({ r.1 with h:=0 },Y Z 0 0,r.2.2):=⟨CP _ _ _ _,(h.sub r f).az⟩
  obtain⟨q,c5,l,x⟩:=o.l;obtain⟨s,c4,t,n⟩:∃a j_,r.2.1=Y a r.1.h j_/\SlIns w a r.1.h r.1.u:=by
   rcases(h.sub r f).u with⟨h1,c,e⟩|⟨g,c,e,h2,-,-⟩
   {exact⟨Z,c,by rw[h1];exact e,.inl h1⟩};{exact⟨_,c,e,.inr ⟨g,0,rfl,h2⟩⟩}
  exact⟨c 0 (by omega) _ rfl,c 1 (by omega) _ rfl,c 2 (by omega) _ rfl,c 3 (by omega) _ rfl,⟨s,c4,by rw[<-t];exact c 4 (by omega) _ rfl,n⟩,⟨q,c5,by rw[<-show r.2.2=_ from l];exact c 5 (by omega) _ rfl,x⟩⟩
def Je{c:Nat}{R:List DR}(h:LRw w base (Y a n c) R)(e:n=ZU R)(f:∀r∈R,FitD r.1)(hn:ZU R<=50000):HAc base w a n c (dF (R.map (·.1))):=by subst e;refine⟨λV g=>(h.agr g).bd,jY h.y,hn,λi hi=>?_⟩;obtain⟨r,j,b⟩:=dG hi;rw[iM j];exact f r b
def TRow.ad{v:ZB}{R:List TR}(h:TRow w base v R)(hz:A (B w)<=A (B w'))(hb:∀k,Qz w k 95\/Qz w k 124->w'.heap[k]?=w.heap[k]?):TRow w' base v R:=by
 refine⟨?_,λr m=>?_,h.up⟩
 ·refine⟨h.y.1,?_⟩;rcases h.y.2 with h1|⟨g,j_,b,rfl,j,i,h2⟩
  {exact .inl h1};{exact .inr ⟨g,j_,b,rfl,j,(hb g (.inl ⟨b,i⟩)).k i,h2⟩}
 {obtain⟨h1,⟨F,h2⟩,f,l⟩:=h.u r m;have e:=hb r.2.1 (.inr f);exact⟨h1.p hz e,⟨F,h2.p hz e⟩,f.p e,l⟩}
structure LgS (w:E)(sb X:Nat)(W:E)(v0:ZB)(a1:O_)(c1:Nat)(RT:List TR)(a:O_)(c:Nat)(D:List DR):Prop where
 rs:W.heap[A (B w)]?=T (N #[Y Z 0 0] 25 (0,0))
 sx:W.heap[sb]?=T (N #[v0,Y a1 (ZU RT) c1] 29 (0,0))
 bx:W.heap[X]?=T (N #[Y a (ZU D) c] 25 (0,0))
 tg:TRow W (A (B w)+1) (Y a1 (ZU RT) c1) RT
 row:LRw W (A (B w)+1) (Y a (ZU D) c) D
 aq:∀r∈D,FitK 0 r.1
 lo:A (B w)<X
 bl:Below (A (B w)) w W
section
variable {w W W':E}{sb X c1 c c' g:Nat}{v0:ZB}{a1:O_}{a':O_}{RT:List TR}{D:List DR}{r:DR}
def LgS.aa (h:LgS w sb X W v0 a1 c1 RT a c D)(hb:Below (A (B W)) W W'):LgS w sb X W' v0 a1 c1 RT a c D:=
 ⟨(hb.p _ (aj h.rs)).k h.rs,(hb.p _ (aj h.sx)).k h.sx,(hb.p _ (aj h.bx)).k h.bx,h.tg.aa hb ly,h.row.agr (de hb ly),h.aq,h.lo,h.bl.k (hb.P h.bl.size)⟩
def LgS.more (h:LgS w sb X W v0 a1 c1 RT (T (Q g 0 Z)) c D)(hz:A (B W)<=A (B W'))(keep:∀k,k<A (B W)->k≠g->k≠X->W'.heap[k]?=W.heap[k]?)(p:W'.heap[X]?=T (N #[Y a' (ZU D+1) c'] 25 (0,0)))
  (m:ZY W' (A (B w)+1) 58 6 (Y a' (ZU D+1) c') (ZU D+1) (D.flatMap ddV++ddV r)) (t:LSub W' (A (B w)+1) r) (s:FitK 0 r.1) (hb:Below (A (B w)) w W'):LgS w sb X W' v0 a1 c1 RT a' c' (D++[r]):=by
 have hlo:=h.lo;obtain⟨cs,Z9,q⟩:=fS h.row.y g rfl;have hgb:=(h.row.y.lt g rfl).1;have j:∀(k:Nat) (i:Array ZB) (e:TypeId) (l:Nat × Nat),W.heap[k]?=T (Obj.cells i e l)->e≠58->e≠25->W'.heap[k]?=W.heap[k]?:=λk i e l b h1 h2=>by
  refine keep k (aj b) (λn=>?_) λn=>?_;{rw[n,q] at b;simp at b;exact h1 b.2.1.c};{rw[n,h.bx] at b;simp at b;exact h2 b.2.1.c}
 have o:(D++[r]).length=ZU D+1:=by simp
 refine⟨(keep _ (aj h.rs) (by omega) (by omega)).k h.rs,(j _ _ _ _ h.sx (by decide) (by decide)).k h.sx,by rw[o];exact p,h.tg.ad hz λk b=>?_,⟨?_,λx f=>?_⟩,λx f=>?_,h.lo,hb⟩
 ·rcases b with⟨i,b⟩|⟨i,b⟩
  {exact j _ _ _ _ b (by decide) (by decide)};{exact j _ _ _ _ b (by decide) (by decide)}
 {rw[o,J2];simpa using m}
 ·rcases p8.1 f with f|f
  ·refine(h.row.sub x f).ad hz λk b _=>?_;rcases b with⟨i,l,b⟩|⟨i,l,b⟩
   {exact j _ _ _ _ b (by decide) (by decide)};{exact j _ _ _ _ b (by decide) (by decide)}
  {rw[j4.1 f];exact t}
 {rcases p8.1 f with f|f;{exact h.aq x f};{rw[j4.1 f];exact s}}
end
def Aw (f b:F_)(an:Nat)(act:Nat->Ins)(Z9:Int):au:=⟨f,3,0,⟨#[103,114,111,117,110,100]⟩,an,act,1,λ_=>⟨b,ZH,ZA,Z9⟩⟩
def Dm (w:E)(base:Nat)(hb:base<=A (B w))(f b:F_)(an:Nat)(act:Nat->Ins)(Z9:Int):(ZV w (N #[U b,ZF ZH,ZF ZA,J I Z9] 74)).ownsRow base 74 4 (Y (T (Q (A (B w)) 0 Z)) 1 1) 1 (cy (Aw f b an act Z9).l 1):=
 ⟨rfl,.inr ⟨A (B w),1,_,rfl,hb,gM w _,p7 _,by unfold maxLen;omega,rfl,rfl⟩⟩
def Gi{f b:F_}{an:Nat}{act:Nat->Ins}{Z9:Int}(h1:f.size<=5000)(h2:b.size<=5000)(g:an<=200)(h:∀j,j<an->(act j).s.size<=5000):FitK 0 (Aw f b an act Z9):=
 ⟨h1,by show(⟨#[103,114,111,117,110,100]⟩:F_).size<=2000;decide,g,h,by show 1<=200;omega,λ_ _=>h2⟩
def qT:GL:=by
 intro n w hn;obtain⟨JI,hi,JH,DQ,DE⟩:=NP gC;obtain⟨W0,P⟩:∃W:E,ZV w (N #[Y Z 0 0] 25)=W:=⟨_,rfl⟩
 obtain⟨A0,K0,hz0⟩:=nb1 P;have fd:=ae P;clear P;have hw1:IntKind.i64.wrap ((n:Int) - 1)=(n:Int) - 1:=by rw[nL];omega
 go_enter func68,ntmps68;go_wp2_with fail;rw[fd.i];clear fd;refine(kO n (by omega) ⟨#[97]⟩ (by decide) W0).P ?_;rintro e ZS⟨b0,n0,c0,f0,a1,c1,RT,rfl,n8,-,-,hT,hG,hN,hB⟩;have HG:=ae hG;have JN:=ae (λr s=>(hN r s).1);have Fd:=ae (λr s=>(hN r s).2);have JQ:=ae n8;have hs1:=hB.size;obtain⟨W1,hW⟩:∃W:E,ZV (ZV (ZV ZS (N #[Y b0 n0 c0,Y a1 (ZU RT) c1] 29)) (N #[U ⟨#[97]⟩,J I 1,J I 0,U ⟨#[103,114,111,117,110,100]⟩,Y Z 0 0,Y Z 0 0] 58)) (N #[Y (T (Q (A (B ZS)+1) 0 Z)) 1 1] 25)=W:=⟨_,rfl⟩
 obtain⟨AC,kS,kD,kX,-⟩:=nb3 hW;have HW:=ae hW;clear hW;have S1:Hid (LgS w (A (B ZS)) (A (B ZS)+2) W1 (Y b0 n0 c0) a1 c1 RT (T (Q (A (B ZS)+1) 0 Z)) 1 [mJ ⟨#[97]⟩ ⟨#[103,114,111,117,110,100]⟩ 1]):=by
  refine⟨(AC.p (A (B w)) (by omega)).k ((hB.p (A (B w)) (by omega)).k K0),kS,kX,(hT.P (by omega)).aa AC ly,⟨⟨rfl,.inr ⟨A (B ZS)+1,1,_,rfl,by omega,kD.i,p7 _,by unfold maxLen;omega,rfl,rfl⟩⟩,λr s=>?_⟩,λr s=>?_,by omega,(A0.k (hB.P (by omega))).k (AC.P (by omega))⟩;{rw[j4.1 s];exact⟨.inl ⟨rfl,0,rfl⟩,CP _ _ _ _⟩};{rw[j4.1 s];exact wu 1 (by decide) (by decide)}
 clear AC kS kD kX hT hG hN hB A0 K0 n8;go_wp2_with fail;rw[HW.i];clear HW;generalize (A (B ZS))+2=X at S1 ⊢;generalize (A (B ZS))=sb at S1 ⊢;go_loopw [5] (λi wr=>∃(m:Nat) (Z9:Int) (a:O_) (c:Nat) (D:List DR),i=J I Z9/\Z9=(m:Int) - 1/\m<=n/\(ZU D)+m=n+1/\Hid (LgS w sb X wr (Y b0 n0 c0) a1 c1 RT a c D)) (λi _=>(intOf i+1).toNat);case atStart=>exact⟨n,_,_,_,_,rfl,rfl,p7 _,by simp;omega,S1⟩
 case round =>
  clear S1;obtain⟨m,Z9,a,c,D,rfl,hz,ZN,hD,b⟩:=hrel;have HD:=ae hD;clear hD;by_cases h0:m=0
  ·subst h0;obtain rfl:Z9=-1:=by omega
   have JS:ZU D<=50000:=by have:=HD.i;omega
   have HE:=ae ((Je (b.row.agr (fl (j:=0) (eL (A (B w))) (Y a (ZU D) c))) rfl (λr s=>(b.aq r s).d (by omega)) JS).P (BV (A (B w))));have Id:ZU D<=450:=by have:=HD.i;omega
   have FE:=ae (λ(i:Nat) (hi:i<ZU D)=>show FitK 0 (dF (D.map (·.1)) i) by
    obtain⟨r,s,ZN⟩:=dG hi;rw[iM s]
    exact b.aq r ZN)
   have BE:=ae (b.bl.setCell (p:=(Q (A (B w)) 0 Z)) ly (Y a (ZU D) c));have kr:=b.rs;have y:=b.bx;have r0:ZW wr (Q (A (B w)) 0 Z)=T (Y Z 0 0):=by simp[World.cell?,kr]
   have q0:ZX wr (Q (A (B w)) 0 Z)=ZA:=by simp[World.frozen?,kr]
   have x0:ZW wr (Q X 0 Z)=T (Y a (ZU D) c):=by simp[World.cell?,y]
   have l0:=aj kr;have l1:=aj y;clear kr y hz;go_wp2;exact bp (v:=ZJ #[Y a (ZU D) c]) (by simp[results,results68,go_sem,r0]) rfl ⟨_,_,_,_,rfl,HE,BE,Id,FE⟩
  ·obtain⟨k,rfl⟩:∃k,m=k+1:=⟨m - 1,by omega⟩
   obtain rfl:Z9=(k:Int):=by omega
   clear hz h0;have Fm:k<ZU RT:=by have:=JQ.i;omega
   have JM:0<ZU D:=by have:=HD.i;omega
   have hDn:ZU D<=100:=by have:=HD.i;omega
   obtain⟨g,c',e⟩:=dr b.row.y JM;obtain⟨rfl,-,-⟩:=T6 e;clear e c';obtain⟨L,hL⟩:∃L,ZU D=L+1:=⟨ZU D - 1,by omega⟩
   obtain⟨rl,Z8,qr⟩:=dG (R:=D) (i:=L) (by omega);have e0:=(iU b.row.y Z8 0 (by omega) (u:=U rl.1.e) rfl).1;rw[QF] at e0;have n9:=(b.aq rl qr).nm;have hwL:IntKind.i64.wrap ((ZU D:Int) - 1)=(L:Int):=by rw[nL];omega
   have hLl:(L:Int)<(ZU D:Int):=by omega
   obtain⟨l,r,la,M,ZQ,t0,t1,-⟩:=b.tg.atk Fm;obtain⟨th,-,ld,GS⟩:=b.tg.u r ZQ;have sm:=ae th;have ro:=ae ld;obtain⟨-,mv⟩:=HG.i r ZQ;have JL:r.1.h<=200:=by have:=Fd.i r ZQ;omega
   have Fk:=ae mv;have JJ:=JN.i r ZQ;have y:=b.bx;have ZM:=b.sx;rw[la] at ZM;have x0:ZW wr (Q X 0 Z)=T (Y (T (Q g 0 Z)) (ZU D) c):=by simp[World.cell?,y]
   have y0:ZX wr (Q X 0 Z)=ZA:=by simp[World.frozen?,y]
   have x1:ZW wr (Q sb 1 Z)=T (Y (T (Q l 0 Z)) (ZU RT) c1):=by simp[World.cell?,ZM]
   have l0:=aj y;have l1:=aj ZM;obtain⟨cg,zg,kg⟩:=fS b.row.y g rfl;have lg:=aj kg;have ph:X≠g:=λe=>by rw[e,kg] at y;simp at y
   have JR:sb≠g:=λe=>by rw[e,kg] at ZM;simp at ZM
   have Bk:l≠g:=λe=>by obtain⟨cur,hc⟩:=b.tg.type l (by rw[la];rfl);rw[e,kg] at hc;simp at hc
   have hgb:=(b.row.y.lt g rfl).1;have hlo:=b.lo;have At:=b.bl.size;clear y ZM th ld mv Z8 qr ZQ la kg;have SQ:Hid (∀V:E,(∀j,j<A (B wr)->j≠g->V.heap[j]?=wr.heap[j]?)->ZW V (Q X 0 Z)=T (Y (T (Q g 0 Z)) (ZU D) c)/\ZW V (Q sb 1 Z)=T (Y (T (Q l 0 Z)) (ZU RT) c1)/\ZW V (Q l (k*2) Z)=T (U r.1.e)/\ZW V (Q l (k*2+1) Z)=T (Y (T (Q r.2.1 0 Z)) r.1.h r.2.2)):=λV hV=>⟨(cq (a:=(Q X 0 Z)) (hV X l0 ph)).k x0,(cq (a:=(Q sb 1 Z)) (hV sb l1 JR)).k x1,(cq (a:=(Q l (k*2) Z)) (hV l M Bk)).k t0,(cq (a:=(Q l (k*2+1) Z)) (hV l M Bk)).k t1⟩
   have HL:=ae hL;clear hL;generalize rl.1.e=S at e0 n9;go_upto_region 7 with fail;have hk2:(k:Int)<(ZU RT:Int):=by omega
   go_wp2_with fail;refine aI (λV=>ZW V (Q X 0 Z)=T (Y (T (Q g 0 Z)) (ZU D) c)/\ZW V (Q sb 1 Z)=T (Y (T (Q l 0 Z)) (ZU RT) c1)/\ZW V (Q l (k*2) Z)=T (U r.1.e)/\ZW V (Q l (k*2+1) Z)=T (Y (T (Q r.2.1 0 Z)) r.1.h r.2.2)) 25 (by kernel_rfl) ?_;have G:=ae (b.aa br.drew);have ZZ:Hid (∀V:E,(∀j,j<wr.drew.heap.size->j≠g->V.heap[j]?=wr.drew.heap[j]?)->ZW V (Q X 0 Z)=T (Y (T (Q g 0 Z)) (ZU D) c)/\ZW V (Q sb 1 Z)=T (Y (T (Q l 0 Z)) (ZU RT) c1)/\ZW V (Q l (k*2) Z)=T (U r.1.e)/\ZW V (Q l (k*2+1) Z)=T (Y (T (Q r.2.1 0 Z)) r.1.h r.2.2)):=SQ;have ZO:Hid (Q_ wr.drew r.2.1 0 r.1.h r.1.u):=sm.aa br.drew ly;have ZR:Hid (Qz wr.drew r.2.1 124):=ro;have l2:X<wr.drew.heap.size:=l0;have ur:A (B w)<=wr.drew.heap.size:=At;clear b SQ sm ro l0 l1 lg M x0 x1 y0 t0 t1 e0 At;generalize wr.drew=v at G ZZ ZO ZR l2 ur ⊢;have o:=ae (ZZ v (λj _ _=>rfl));iterate 20
    refine aO 0 (v:=?_) rfl rfl (by kernel_rfl) (λ_ _ _ h=>h) rfl ?_ o ?_;rotate_left
    ·(rintro wz⟨s0,s1,s2,s3⟩;go_simp)
     (try with_reducible rfl)
    (try simp only[Act.put,yh])
   have BA:=ae ((BS v).alloc ly (N #[U S,ZF ZH,ZF ZA,J I L] 74));have hx1:=G.lo;have JO:A (B (ZV v (N #[U S,ZF ZH,ZF ZA,J I L] 74)))=A (B v)+1:=by simp
   have OL:=ae (Dm v (A (B w)+1) (by omega) r.1.e S r.1.h r.1.u (L:Int));refine ai (i:=20) rfl (by kernel_rfl) λK f=>?_;go_simp;clear o;have o:=ae (ZZ _ (λj ZT _=>BA.p j ZT));refine f _ _ (λ_=>o) ?_;clear f K
   (try simp only[Act.put,yh])
   refine ai (i:=21) rfl (by kernel_rfl) λK f=>?_;go_simp;refine f _ _ (λ_=>o) ?_;clear f K
   (try simp only[Act.put,yh])
   have JG:=BA.size;have H:=ae (BA.alloc JG (N #[U r.1.e,J I 3,J I 0,U ⟨#[103,114,111,117,110,100]⟩,Y (T (Q r.2.1 0 Z)) r.1.h r.2.2,Y (T (Q (A (B v)) 0 Z)) 1 1] 58));refine ai (i:=22) rfl (by kernel_rfl) λK f=>?_;go_simp;clear o;have o:=ae (ZZ _ (λj ZT _=>H.p j ZT));refine f _ _ (λ_=>o) ?_;clear f K
   (try simp only[Act.put,yh])
   have OW:=ae (J_ G.row.y H ly);obtain⟨WC,O⟩:∃W:E,ZV (ZV v (N #[U S,ZF ZH,ZF ZA,J I L] 74)) (N #[U r.1.e,J I 3,J I 0,U ⟨#[103,114,111,117,110,100]⟩,Y (T (Q r.2.1 0 Z)) r.1.h r.2.2,Y (T (Q (A (B v)) 0 Z)) 1 1] 58)=W:=⟨_,rfl⟩
   obtain⟨-,-,-,hzC⟩:=nb2 O;have ZP:=ae O;clear O;have NC:Hid (∀j u,[Value.string r.1.e,J I 3,J I 0,U ⟨#[103,114,111,117,110,100]⟩,Y (T (Q r.2.1 0 Z)) r.1.h r.2.2,Y (T (Q (A (B v)) 0 Z)) 1 1][j]?=T u->WC.cell? (((Q (A (B v)+1) 0 Z):Addr).add j)=T u):=by rw[<-ZP.i];have h:=eQ (ZV v (N #[U S,ZF ZH,ZF ZA,J I L] 74)) #[U r.1.e,J I 3,J I 0,U ⟨#[103,114,111,117,110,100]⟩,Y (T (Q r.2.1 0 Z)) r.1.h r.2.2,Y (T (Q (A (B v)) 0 Z)) 1 1] 58;rw[JO] at h;exact h
   have OK:=ae (J_ OL ((a8 _ (ZV v (N #[U S,ZF ZH,ZF ZA,J I L] 74))).alloc ly (N #[U r.1.e,J I 3,J I 0,U ⟨#[103,114,111,117,110,100]⟩,Y (T (Q r.2.1 0 Z)) r.1.h r.2.2,Y (T (Q (A (B v)) 0 Z)) 1 1] 58)) ly);clear OL;rw[ZP.i] at H OW OK o ⊢;clear ZP;refine ai (i:=23) rfl (by kernel_rfl) λK f=>?_;refine aU rfl (.tmp 28) (.tmp 49) 23 rfl (A (B w)+1) 58 JI (ZJ #[U ⟨#[]⟩,J I 0,J I 0,U ⟨#[]⟩,Y Z 0 0,Y Z 0 0]) 6 96 QC hi JH DQ DE rfl (by decide) (Y (T (Q g 0 Z)) (ZU D) c) (ZU D) (D.flatMap ddV) (by simp[Act.eval]) OW.i (Q (A (B v)+1) 0 Z) 1 1 [U r.1.e,J I 3,J I 0,U ⟨#[103,114,111,117,110,100]⟩,Y (T (Q r.2.1 0 Z)) r.1.h r.2.2,Y (T (Q (A (B v)) 0 Z)) 1 1] (by simp[Act.eval]) rfl NC.i (by simp[Value.oneCell']) (by unfold maxLen;omega) (by omega) (by omega) ?_;intro v' t C q Hx;obtain⟨ZL,c',rfl⟩:=dr C (by omega);have KG:Hid (∀j,j<A (B WC)->j≠g->t.heap[j]?=WC.heap[j]?):=λj ZT aq=>q.p j ZT (λe=>aq (IH (show T j=T g from e)));have hz6:=q.size;clear o;have o:=ae (ZZ t (λj ZT aq=>(KG j (by omega) aq).k (H.p j ZT)));refine f _ _ (λ_=>o) ?_;clear f K
   (try simp only[Act.put,yh])
   refine ai (i:=24) rfl (by kernel_rfl) λK f=>?_;go_simp;refine f _ _ (λ_=>o) ?_;clear f K
   (try simp only[Act.put,yh])
   have HO:=ae C;have k6:t.heap[X]?=v.heap[X]?:=(KG X (by omega) ph).k (H.p X l2);have x:=k6.k G.bx;have z0:ZW t (Q X 0 Z)=T (Y (T (Q g 0 Z)) (ZU D) c):=by simp[World.cell?,x]
   have z1:ZX t (Q X 0 Z)=ZA:=by simp[World.frozen?,x]
   have z2:=aj x;have JK:X≠ZL:=λe=>by obtain⟨cc,zz,hc⟩:=fS C ZL rfl;rw[e,hc] at x;simp at x
   clear C;refine ai (i:=25) rfl (by kernel_rfl) λK f=>?_;go_simp;refine f _ _ (λh=>absurd rfl h) ?_;clear f K o
   (try simp only[Act.put,yh])
   refine ba (by kernel_rfl) ?_ _;have keep:∀j,j<A (B v)->j≠g->j≠X->(z t (Q X 0 Z) (Y (T (Q ZL 0 Z)) (ZU D+1) c')).heap[j]?=v.heap[j]?:=λj ZT h1 h2=>(qh t (Q X 0 Z) _ j h2).k ((KG j (by omega) h1).k (H.p j ZT));have bt:r.2.1≠g:=λe=>by obtain⟨c5,z5,h5⟩:=fS G.row.y g rfl;obtain⟨c6,h6⟩:=ZR.i;rw[e,h5] at h6;simp at h6
   have ex:r.2.1≠X:=λe=>by obtain⟨c6,h6⟩:=ZR.i;rw[e,G.bx] at h6;simp at h6
   have Z8:=ZO.1;have M:=(G.row.y.lt g rfl).2
   have S9:=ae (G.more (r:=(Aw r.1.e S r.1.h r.1.u (L:Int),Y (T (Q r.2.1 0 Z)) r.1.h r.2.2,Y (T (Q (A (B v)) 0 Z)) 1 1)) (a':=T (Q ZL 0 Z)) (c':=c') (W':=z t (Q X 0 Z) (Y (T (Q ZL 0 Z)) (ZU D+1) c')) (by simp;omega) keep (cH x _)
    (ew HO λm ZN _=>qh t (Q X 0 Z) _ m (λe=>JK (e.c.k (IH (show T m=T ZL from ZN.c ▸ rfl)))))
    ⟨.inr ⟨r.2.1,r.2.2,rfl,ZO.p (by simp;omega) (keep _ Z8 bt ex),ZR.p (keep _ Z8 bt ex),GS⟩,ew OK λm ZN _=>by
     obtain rfl:A (B v)=m:=IH ZN
     exact(qh t (Q X 0 Z) _ _ (by show (A (B v))≠X;omega)).k (KG _ (by omega) (by omega))⟩
    (Gi JJ n9 JL Fk)
    (((G.bl.k (H.P ur)).k (bg (a8 (A (B w)) WC) q (by omega) (λk' e=>by have e2:=IH (show T g=T k' from e);omega))).setCell (p:=(Q X 0 Z)) (by show (A (B w))<=X;omega) _))
   clear keep bt ex Z8 M q Hx HO OK OW NC KG BA H ZZ ZO ZR x k6 z0 z1 z2;generalize World.setCell t _ _=W9 at S9 ⊢;have hwk:IntKind.i64.wrap ((k:Int) - 1)=(k:Int) - 1:=by rw[nL];omega
   go_wp2;refine⟨⟨k,(k:Int) - 1,_,_,_,by go_num,rfl,by omega,?_,S9⟩,by simp[intOf]⟩;have:=HD.i;rw[cM,AI];omega
