import Derived.Test.YtcnilonhfpimnaaGreatDoorEE
import Derived.Test.YtcnilonhfpimnaaGreatDoorEO
import Derived.Deep.AppendLies
set_option linter.all false
set_option maxRecDepth 100000
set_option maxHeartbeats 8000000
open Go renaming Addr.mk->T,Value.slice->Z,Value.string->U,Value.int->J,Value.bool->ZF,Value.agg->ZJ,Obj.cells->N,IntKind.i64->I,World->E,Value->ZB,Ending.returned->ZI,World.heap->B,World.ownsRow->ZX,World.alloc->ZU,World.cell?->ZV,World.frozen?->ZW
open Option renaming none->Y,some->Q
open Bool renaming false->ZA,true->ZH
open Array renaming size->A
open List renaming length->z
namespace Go.Proofs.YtcnilonhfpimnaaGreatDoor.Vp
open Tryz RowKit Ca
variable {w W w0 w':E}{base g n j R b q X ZO i:Nat}{a:O_}{D:List DR}{f:Nat->Link}{u v0 v1 v2 v3 v4:ZB}{r:DR}{y:Link}
def LBx (W:E)(b:Nat)(v0 v1 v2 v3 v4 v5:ZB):Prop:=W.heap[b]?=Q (N #[v0,v1,v2,v3,v4,v5] 62 (0,0))
section
variable {W W':E}{b:Nat}{v0 v1 v2 v3 v4 v5:ZB}
def LBx.lt (h:LBx W b v0 v1 v2 v3 v4 v5):b<A (B W):=aj h
def LBx.cells (h:LBx W b v0 v1 v2 v3 v4 v5):ZV W (T b 0 Y)=Q v0/\ZV W (T b 1 Y)=Q v1/\ZV W (T b 2 Y)=Q v2/\ZV W (T b 3 Y)=Q v3/\ZV W (T b 4 Y)=Q v4/\ZV W (T b 5 Y)=Q v5:=by have f:W.heap[b]?=Q (N #[v0,v1,v2,v3,v4,v5] 62 (0,0)):=h;refine⟨?_,?_,?_,?_,?_,?_⟩<;>simp[World.cell?,f]
def LBx.fz (h:LBx W b v0 v1 v2 v3 v4 v5)(j:Nat):ZW W (T b j Y)=ZA:=by have f:W.heap[b]?=Q (N #[v0,v1,v2,v3,v4,v5] 62 (0,0)):=h;simp[World.frozen?,f]
def LBx.ad (h:LBx W b v0 v1 v2 v3 v4 v5)(e:W'.heap[b]?=W.heap[b]?):LBx W' b v0 v1 v2 v3 v4 v5:=e.k h
def LBx.set5 (h:LBx W b v0 v1 v2 v3 v4 v5)(u:ZB):LBx (W.setCell (T b 5 Y) u) b v0 v1 v2 v3 v4 u:=by have f:W.heap[b]?=Q (N #[v0,v1,v2,v3,v4,v5] 62 (0,0)):=h;show(W.setCell (T b 5 Y) u).heap[b]?=_;simp[World.setCell,NR,f]
end
def Dl{b:Type}(f:Nat->b)(n k:Nat)(y:b):((List.range n).map f).set k y=(List.range n).map (λi=>if i=k then y else f i):=by
 refine UG λi=>?_;rw[List.getElem?_set,L8,L8];by_cases hi:i<n;{by_cases e:k=i;{subst e;simp[hi]};{have g:¬ i=k:=λh=>e h.c;simp[hi,e,g]}};{by_cases e:k=i;{subst e;simp[hi]};{simp[hi,e]}}
def yF{c k:Nat}(h:ZX w base 65 4 (Z (Q (T g 0 Y)) n c) n (cy f n))(o:k<n)(l:j<4)(m:du y=(du (f k)).set j u):(w.setCell (T g (k*4+j) Y) u).ownsRow base 65 4 (Z (Q (T g 0 Y)) n c) n (cy (λi=>if i=k then y else f i) n):=by have b:=gU (j:=k*4+j) h u;have e:=ku du 4 (λ_=>rfl) l m ((List.range n).map f) k (by simp[o]);rw[Dl] at e;unfold cy at b ⊢;rw[e] at b;exact b
def cZ{c k:Nat}(h:ZX w base 65 4 (Z (Q (T g 0 Y)) n c) n (cy f n))(i:k<n)(b:j<4)(l:(du (f k))[j]?=Q u):ZV w (T g (k*4+j) Y)=Q u/\ZW w (T g (k*4+j) Y)=ZA:=
 bA h (j:=k*4+j) (by rw[jJ f i j b];exact l)
def Il{size c:Nat}{e:TypeId}{i:List ZB}(h:ZX w base e size (Z (Q (T g 0 Y)) n c) n i):base<=g/\∃j,w.heap[g]?=Q (N j e (0,0)):=by
 rcases h.2 with⟨b,_⟩|⟨g',j_,cur,b,hb,f,_⟩
 {cases b}
 ·cases b
  exact⟨hb,_,f⟩
structure LStD (w0 w:E)(R base g0:Nat)(v0 v1 v2 v3 v4:ZB)(W:E)(q g n c:Nat)(f:Nat->Link):Prop where
 bx:LBx W (A (B w)) v0 v1 v2 v3 v4 (Z (Q (T g 0 Y)) n c)
 rs:LBx W (A (B w)+1) (U ⟨#[]⟩) (J I 0) (J I 0) (U ⟨#[]⟩) (Z Y 0 0) (Z Y 0 0)
 rd:Rd W R q
 u:ZX W base 65 4 (Z (Q (T g 0 Y)) n c) n (cy f n)
 on:zt R w0 W
 same:∀k,k<A (B w)->k≠R->k≠g0->W.heap[k]?=w.heap[k]?
 gg:g=g0\/(A (B w))<=g
 nm:∀j,j<n->(f j).e.size<=5000
 hR:R<A (B w0)
 hb:A (B w0)<=base
 hbw:base<=A (B w)
section
variable {w0 w W W':E}{R base g0 q q' g n c:Nat}{v0 v1 v2 v3 v4:ZB}{f:Nat->Link}
def LStD.lt (h:LStD w0 w R base g0 v0 v1 v2 v3 v4 W q g n c f):A (B w)+2<=A (B W):=h.rs.lt
def LStD.ac (h:LStD w0 w R base g0 v0 v1 v2 v3 v4 W q g n c f)(b:zt R W W')(m:Rd W' R q'):LStD w0 w R base g0 v0 v1 v2 v3 v4 W' q' g n c f:=by have h1:=h.hR;have h2:=h.hb;have o:=h.hbw;have h4:=h.lt;exact⟨h.bx.ad (b.p _ h.bx.lt (by omega)),h.rs.ad (b.p _ h.rs.lt (by omega)),m,gE h.u b (by omega),h.on.k b,λk l i j=>(b.p k (by omega) i).k (h.same k l i j),h.gg,h.nm,h1,h2,o⟩
def LStD.aa (h:LStD w0 w R base g0 v0 v1 v2 v3 v4 W q g n c f)(b:Below (A (B W)) W W'):LStD w0 w R base g0 v0 v1 v2 v3 v4 W' q g n c f:=h.ac (zt.l b) (h.rd.aa b ly)
def LStD.gne (h:LStD w0 w R base g0 v0 v1 v2 v3 v4 W q g n c f):g≠A (B w)/\g≠A (B w)+1/\base<=g/\g<A (B W):=by
 obtain⟨hb,cs,b⟩:=Il h.u;refine⟨λe=>?_,λe=>?_,hb,aj b⟩;{have:=h.bx;unfold LBx at this;rw[<-e,b] at this;cases this};{have:=h.rs;unfold LBx at this;rw[<-e,b] at this;cases this}
def LStD.setL{k:Nat}(h:LStD w0 w R base g0 v0 v1 v2 v3 v4 W q g n c f)(s:k<n)(C:j<4)(ZY:du y=(du (f k)).set j u)(x:y.e.size<=5000):LStD w0 w R base g0 v0 v1 v2 v3 v4 (W.setCell (T g (k*4+j) Y) u) q g n c (λi=>if i=k then y else f i):=by
 obtain⟨Z8,ZZ,t,e4⟩:=h.gne;have h1:=h.hR;have h2:=h.hb;have r:Below base W (W.setCell (T g (k*4+j) Y) u):=br.setCell (p:=(T g (k*4+j) Y)) t u;have far:∀m,m≠g->(W.setCell (T g (k*4+j) Y) u).heap[m]?=W.heap[m]?:=λm l=>qh W (T g (k*4+j) Y) u m (by simpa using l);refine⟨h.bx.ad (far _ (λe=>Z8 e.c)),h.rs.ad (far _ (λe=>ZZ e.c)),h.rd.low r (by omega),yF h.u s C ZY,h.on.then (r.P h2),λm l o b=>(far m ?_).k (h.same m l o b),h.gg,λi hi=>?_,h1,h2,h.hbw⟩;{rcases h.gg with e|e;{rw[e];exact b};{omega}};{show(if i=k then y else f i).e.size<=5000;split;{exact x};{exact h.nm i hi}}
def LStD.setB{n1 c1:Nat}{f1:Nat->Link}(h:LStD w0 w R base g0 v0 v1 v2 v3 v4 W q g n c f)(i:W.grownBy W' (Q g))(y:ZX W' base 65 4 (Z (Q (T b 0 Y)) n1 c1) n1 (cy f1 n1))(ZZ:b=g\/(A (B w))<=b)(hn:∀j,j<n1->(f1 j).e.size<=5000):LStD w0 w R base g0 v0 v1 v2 v3 v4 (W'.setCell (T (A (B w)) 5 Y) (Z (Q (T b 0 Y)) n1 c1)) q b n1 c1 f1:=by
 obtain⟨ZY,D,Z8,e4⟩:=h.gne;have h1:=h.hR;have h2:=h.hb;have x:=h.hbw;have h4:=h.lt;have hw0:=h.on.size;have ZT:Below base W W':=bg br i (by omega) (λj e=>by cases e;exact Z8);have u:Below base W (W'.setCell (T (A (B w)) 5 Y) (Z (Q (T b 0 Y)) n1 c1)):=ZT.setCell (p:=(T (A (B w)) 5 Y)) x _;have l:LBx W' (A (B w)) v0 v1 v2 v3 v4 (Z (Q (T g 0 Y)) n c):=h.bx.ad (i.p _ h.bx.lt (by simpa using λe=>ZY e.c));have t:=h.rs.ad (i.p _ h.rs.lt (by simpa using λe=>D e.c));have far:∀m,m≠A (B w)->(W'.setCell (T (A (B w)) 5 Y) (Z (Q (T b 0 Y)) n1 c1)).heap[m]?=W'.heap[m]?:=λm r=>qh W' (T (A (B w)) 5 Y) _ m (by simpa using r);refine⟨l.set5 _,t.ad (far _ (by omega)),h.rd.low u (by omega),dJ y l (by decide) _,h.on.then (u.P h2),λm r s o=>?_,?_,hn,h1,h2,x⟩
 ·refine(far m (by omega)).k ((i.p m (by omega) ?_).k (h.same m r s o));rcases h.gg with e|e;{simpa[e] using o}
  ·intro C;have:m=g:=by simpa using C
   omega
 {rcases ZZ with e|e;{rw[e];exact h.gg};{exact .inr e}}
end
def qS (W:E)(r:Option Nat):W.grownBy W r:=⟨rfl,rfl,rfl,p7 _,λ_ _ _=>rfl⟩
def Im{p c:Nat}(m:zt R w0 w)(hR:R<A (B w0))(hb:A (B w0)<=base)(hbw:base<=A (B w))(q:Rd w R p)(i:ZX w base 65 4 (Z (Q (T g 0 Y)) n c) n (cy f n))(l:∀j,j<n->(f j).e.size<=5000):LStD w0 w R base g v0 v1 v2 v3 v4 (ZU (ZU w (N #[v0,v1,v2,v3,v4,Z (Q (T g 0 Y)) n c] 62)) (N #[U ⟨#[]⟩,J I 0,J I 0,U ⟨#[]⟩,Z Y 0 0,Z Y 0 0] 62)) p g n c f:=by
 have b:=(BS w).alloc ly (N #[v0,v1,v2,v3,v4,Z (Q (T g 0 Y)) n c] 62);have hz:A (B (ZU w (N #[v0,v1,v2,v3,v4,Z (Q (T g 0 Y)) n c] 62)))=A (B w)+1:=by simp
 have h:=(a8 (A (B (ZU w (N #[v0,v1,v2,v3,v4,Z (Q (T g 0 Y)) n c] 62)))) (ZU w (N #[v0,v1,v2,v3,v4,Z (Q (T g 0 Y)) n c] 62))).alloc ly (N #[U ⟨#[]⟩,J I 0,J I 0,U ⟨#[]⟩,Z Y 0 0,Z Y 0 0] 62);have ZY:=b.k (h.P b.size);have h2:=gM (ZU w (N #[v0,v1,v2,v3,v4,Z (Q (T g 0 Y)) n c] 62)) (N #[U ⟨#[]⟩,J I 0,J I 0,U ⟨#[]⟩,Z Y 0 0,Z Y 0 0] 62);rw[hz] at h2;exact⟨(h.p (A (B w)) (by rw[hz];omega)).k (gM w _),h2,q.aa ZY ly,K_ i ZY ly,m.k (zt.l ZY),λk o _ _=>ZY.p k o,.inl rfl,l,hR,hb,hbw⟩
def LBx.six{u0 u1 u2 u3 u4 u5:ZB}(h:LBx W b u0 u1 u2 u3 u4 u5)(v0 v1 v2 v3 v4 v5:ZB):LBx ((((((W.setCell (T b 0 Y) v0).setCell (T b 1 Y) v1).setCell (T b 2 Y) v2).setCell (T b 3 Y) v3).setCell (T b 4 Y) v4).setCell (T b 5 Y) v5) b v0 v1 v2 v3 v4 v5:=by have f:W.heap[b]?=Q (N #[u0,u1,u2,u3,u4,u5] 62 (0,0)):=h;show((((((W.setCell (T b 0 Y) v0).setCell (T b 1 Y) v1).setCell (T b 2 Y) v2).setCell (T b 3 Y) v3).setCell (T b 4 Y) v4).setCell (T b 5 Y) v5).heap[b]?=_;simp[World.setCell,NR,f]
def rX (W:E)(b m:Nat)(v0 v1 v2 v3 v4 v5:ZB)(f:m≠b):((((((W.setCell (T b 0 Y) v0).setCell (T b 1 Y) v1).setCell (T b 2 Y) v2).setCell (T b 3 Y) v3).setCell (T b 4 Y) v4).setCell (T b 5 Y) v5).heap[m]?=W.heap[m]?:=by have far:∀(V:E) (j:Nat) (u:ZB),(V.setCell (T b j Y) u).heap[m]?=V.heap[m]?:=λV j u=>qh V (T b j Y) u m (by simpa using f);rw[far,far,far,far,far,far]
def tk (W:E)(b ZZ:Nat)(v0 v1 v2 v3 v4 v5:ZB)(f:ZZ<=b):Below ZZ W ((((((W.setCell (T b 0 Y) v0).setCell (T b 1 Y) v1).setCell (T b 2 Y) v2).setCell (T b 3 Y) v3).setCell (T b 4 Y) v4).setCell (T b 5 Y) v5):=
 ((((((a8 ZZ W).setCell (p:=(T b 0 Y)) f v0).setCell (p:=(T b 1 Y)) f v1).setCell (p:=(T b 2 Y)) f v2).setCell (p:=(T b 3 Y)) f v3).setCell (p:=(T b 4 Y)) f v4).setCell (p:=(T b 5 Y)) f v5
def DL (ZQ:Nat)(w0 w:E)(R base g0:Nat)(v0 v1 v2 v3 v4:ZB)(q:Nat)(e:Ending)(b:E):Prop:=∃(g n c:Nat) (f:Nat->Link),e=ZI (ZJ #[v0,v1,v2,v3,v4,Z (Q (T g 0 Y)) n c])/\ZX b base 65 4 (Z (Q (T g 0 Y)) n c) n (cy f n)/\n<=ZQ+1/\(∀j,j<n->(f j).e.size<=5000)/\(∃q':Nat,q'<=q/\Rd b R q')/\zt R w0 b/\∀k,k<A (B w)->k≠R->k≠g0->b.heap[k]?=w.heap[k]?
def LStD.fin{ZQ:Nat}{g0 c:Nat}(h:LStD w0 w R base g0 v0 v1 v2 v3 v4 W q g n c f)(hn:n<=ZQ+1)(m:q<=ZO)(u0 u1 u2 u3 u4 u5:ZB):DL ZQ w0 w R base g0 v0 v1 v2 v3 v4 ZO (ZI (ZJ #[v0,v1,v2,v3,v4,Z (Q (T g 0 Y)) n c])) ((((((W.setCell (T (A (B w)+1) 0 Y) u0).setCell (T (A (B w)+1) 1 Y) u1).setCell (T (A (B w)+1) 2 Y) u2).setCell (T (A (B w)+1) 3 Y) u3).setCell (T (A (B w)+1) 4 Y) u4).setCell (T (A (B w)+1) 5 Y) u5):=by
 obtain⟨e1,o,e3,e4⟩:=h.gne;have h1:=h.hR;have h2:=h.hb;have h3:=h.hbw;have i:=tk W (A (B w)+1) base u0 u1 u2 u3 u4 u5 (by omega);refine⟨g,n,c,f,rfl,ew h.u λk b _=>rX _ _ _ _ _ _ _ _ _ ?_,hn,h.nm,⟨q,m,h.rd.low i (by omega)⟩,h.on.then (i.P h2),λk b j l=>(rX _ _ _ _ _ _ _ _ _ (by omega)).k (h.same k b j l)⟩;have:k=g:=by simpa[Value.ownBlock] using b.c
 rw[this];exact o
variable {K:Nat}
def atD (x:au)(j:Nat)(Z8:Int):au:={ x with m:=λi=>if i=j then { x.m j with G:=Z8 } else x.m i }
def FitK.G{x:au}(h:FitK K x)(b:j<x.f)(Z8:Int):FitK K (atD x j Z8):=by
 refine⟨h.nm,h.tx,h.an,h.asz,h.ln,λi hi=>?_⟩;show(if i=j then { x.m j with G:=Z8 } else x.m i).e.size<=5000;split;{exact h.lsz j b};{exact h.lsz i hi}
def SpS.az{c f cl:Nat}(h:SpS K w R X W q a c D)(ZP:(D.map (·.2.2)).Pairwise Apt)(ZQ:D[i]?=Q r)(C:r.2.2=Z (Q (T f 0 Y)) r.1.f cl)(ZN:j<r.1.f)(Z8:Int):SpS K w R X (W.setCell (T f (j*4+3) Y) (J I Z8)) q a c (D.set i (atD r.1 j Z8,r.2)):=by
 have u:=J1 ZQ;have hlo:=h.lo;have hX:=h.hX;have hn:(D.set i (atD r.1 j Z8,r.2)).length=z D:=NJ;obtain⟨cl2,zl,ZT⟩:=fS (h.row.sub r u).az f (by rw[C];rfl);have ZO:A (B w)+2<=f:=((h.row.sub r u).az.lt f (by rw[C];rfl)).1;have S:X≠f:=λe=>by have:=h.bx;rw[e,ZT] at this;simp at this
 have ZZ:=(a8 (A (B w)+2) W).setCell (p:=(T f (j*4+3) Y)) ZO (J I Z8);have far:∀m,m≠f->(W.setCell (T f (j*4+3) Y) (J I Z8)).heap[m]?=W.heap[m]?:=λm l=>qh _ _ _ _ l;have M:∀m e,OfTy W m e->e≠65->m≠f:=λm e n ZL t=>by obtain⟨c0,z0,g⟩:=n;rw[t,ZT] at g;simp at g;exact ZL g.2.1.c
 have V:(D.set i (atD r.1 j Z8,r.2)).flatMap ddV=D.flatMap ddV:=by
  have e:∀(L:List DR) (i:Nat),L[i]?=Q r->(L.set i (atD r.1 j Z8,r.2)).flatMap ddV=L.flatMap ddV:=by
   intro L;induction L with
   |nil=>intro i g;simp at g
   |cons x L ih =>
    intro i g;cases i with
    |zero =>
     obtain rfl:x=r:=by simpa using g
     rfl
    |succ i =>
     have h1:L[i]?=Q r:=by simpa using g
     rw[VA,N9,N9,ih i h1]
  exact e D i ZQ
 refine⟨h.rd.low ZZ (by omega),h.o.then (ZZ.P (by omega)),(ZZ.p _ (by omega)).k h.rs,?_,⟨?_,λs hs=>?_⟩,oI h.aq ((h.aq r u).G ZN Z8),h.lo,h.hX,by rw[hn];exact h.num⟩;{rw[hn];exact(far X S).k h.bx};{rw[hn,V];exact ew h.row.u λm _ n=>far m (M m _ n (by decide))}
 ·obtain⟨k,hi⟩:=PE hs;by_cases e:k=i;{subst e;rw[PH (by rw[<-hn];exact(j5.1 hi).1)] at hi;obtain rfl:=IN hi;refine⟨ew (h.row.sub r u).q λm _ n=>far m (M m _ n (by decide)),?_⟩;have ZM:=(h.row.sub r u).az;show World.ownsRow _ _ _ _ r.2.2 r.1.f (cy (atD r.1 j Z8).m r.1.f);rw[C] at ZM ⊢;exact yF ZM ZN (by omega) rfl}
  ·rw[Q2 (λt=>e t.c)] at hi;have O:=J1 hi;refine(h.row.sub s O).far (λm _ n=>far m (M m _ n (by decide))) λm l _=>far m λt=>?_;obtain⟨ZS,G⟩:=j5.1 hi;obtain⟨ZR,H⟩:=j5.1 ZQ;have y:r.2.2.ownBlock=Q f:=by rw[C];rfl
   have P:=ES.1 ZP;rcases YO e with ZY|ZY;{have b:=P k i (by simpa using ZS) (by simpa using ZR) ZY;rw[TM,TM,G,H] at b;rcases b with b|b;{rw[l] at b;cases b};{exact b (by rw[l,y,t])}};{have b:=P i k (by simpa using ZR) (by simpa using ZS) ZY;rw[TM,TM,G,H] at b;rcases b with b|b;{rw[y] at b;cases b};{exact b (by rw[l,y,t])}}
def Gg (b:D[i]?=Q r)(x:au):(D.set i (x,r.2)).map (·.2)=D.map (·.2):=by
 rw[List.map_set];refine UG λk=>?_;by_cases e:k=i;{subst e;rw[PH (by rw[PJ];exact(j5.1 b).1),L8,b];rfl};{rw[Q2 (λf=>e f.c)]}
def SpS.aside{c:Nat}{p:Array ZB}{Z8:Nat × Nat}(h:SpS K w R X W q (Q (T g 0 Y)) c D)(hb:A (B w)+2<=b)(hX:b≠X)(n:b≠g)(hF:W.heap[b]?=Q (N p 62 Z8))(v0 v1 v2 v3 v4 v5:ZB):SpS K w R X ((((((W.setCell (T b 0 Y) v0).setCell (T b 1 Y) v1).setCell (T b 2 Y) v2).setCell (T b 3 Y) v3).setCell (T b 4 Y) v4).setCell (T b 5 Y) v5) q (Q (T g 0 Y)) c D:=by
 have hlo:=h.lo;have ZZ:=tk W b (A (B w)+2) v0 v1 v2 v3 v4 v5 hb;have far:=λm=>rX W b m v0 v1 v2 v3 v4 v5;have j:∀m e,OfTy W m e->e≠62->m≠b:=λm e f l u=>by obtain⟨c0,z0,i⟩:=f;rw[u,hF] at i;simp at i;exact l i.2.1.c
 refine⟨h.rd.low ZZ (by omega),h.o.then (ZZ.P (by omega)),(ZZ.p _ (by omega)).k h.rs,(far X (λe=>hX e.c)).k h.bx,⟨ew h.row.u λm t _=>?_,λs r=>(h.row.sub s r).far (λm _ f=>far m (j m _ f (by decide))) (λm _ f=>far m (j m _ f (by decide)))⟩,h.aq,h.lo,h.hX,h.num⟩;obtain rfl:g=m:=by simpa[Value.ownBlock] using t
 exact far g λe=>n e.c
def mJ (nm tx:F_)(b:Int):DR:=({ fG with e:=nm,L:=b,H:=tx },Z Y 0 0,Z Y 0 0)
def wu{nm tx:F_}(f:Int)(h1:nm.size<=5000)(h2:tx.size<=2000+K):FitK K (mJ nm tx f).1:=⟨h1,h2,DW _,λj b=>absurd b (by simp[mJ,fG]),DW _,λj b=>absurd b (by simp[mJ,fG])⟩
def Gh (w:E)(base:Nat)(nm tx:F_)(b:Int):DSub w base (mJ nm tx b):=⟨CP _ _ _ _,CP _ _ _ _⟩
def Jd (h:D.Pairwise λa b=>Apt a.2.1 b.2.1/\Apt a.2.2 b.2.2)(nm tx:F_)(f:Int):((mJ nm tx f::D).map (·.2.2)).Pairwise Apt:=by rw[T7,P9];exact⟨λx _=>.inl rfl,List.pairwise_map.2 (h.imp λh=>h.2)⟩
def GL:Prop:=∀(m:Nat) (w:E),m<=61->Calls Tryz.prog 53 #[J I m] w λe b=>∃(a:O_) (n c:Nat) (f:Nat->au),e=ZI (ZJ #[Z a n c])/\HAc (A (B w)) b a n c f/\Below (A (B w)) w b/\n<=450/\∀i,i<n->FitK 0 (f i)
def SpS.other{W':E}{c c':Nat}{a':O_}{f:Nat->au}(h:SpS K w R X W q a c D)(n:Below (A (B W)) W W')(hH:HAc (A (B W)) W' a' b c' f)(hn:b<=450)(j:∀i,i<b->FitK 0 (f i))(m:q<=ZO):DAK K w R ZO (ZI (ZJ #[Z a' b c'])) (W'.setCell (T (A (B w)+1) 0 Y) (Z a' b c')):=by
 have g:=h.aa n;have hl:=h.lo;have hx:=h.lt;have hX:=h.hX;have ZZ:=(a8 (A (B w)) W').setCell (p:=(T (A (B w)+1) 0 Y)) (BV _) (Z a' b c');have l:Agr (A (B W)) W' (W'.setCell (T (A (B w)+1) 0 Y) (Z a' b c')):=⟨by simp,λk h1 _=>qh _ _ _ _ (by show k≠A (B w)+1;omega)⟩
 exact⟨a',b,c',f,rfl,(hH.agr l).P (by omega),⟨q,m,g.rd.low ZZ h.lo,g.o.then ZZ⟩,by omega,λi hi=>(j i hi).up (DW _)⟩
structure LSub (w:E)(base:Nat)(r:DR):Prop where
 q:r.1.h=0/\(∃c,r.2.1=Z Y 0 c)\/∃g c,r.2.1=Z (Q (T g 0 Y)) r.1.h c/\Qj w g 0 r.1.h r.1.q/\Qk w g 102/\base<=g
 az:ZX w base 65 4 r.2.2 r.1.f (cy r.1.m r.1.f)
structure LRw (w:E)(base:Nat)(v:ZB)(R:List DR):Prop where
 u:ZX w base 62 6 v (z R) (R.flatMap ddV)
 sub:∀r∈R,LSub w base r
def LSub.ad (h:LSub w base r)(hz:A (B w)<=A (B w'))(hb:∀k,OfTy w k 102\/OfTy w k 65->base<=k->w'.heap[k]?=w.heap[k]?):LSub w' base r:=by
 refine⟨?_,ew h.az λk j n=>hb k (.inr n) (h.az.lt k j).1⟩;rcases h.q with h1|⟨g,c,e,h2,b,i⟩
 {exact .inl h1};{have f:w'.heap[g]?=w.heap[g]?:=hb g (.inl (by obtain⟨l,m⟩:=b;exact⟨l,_,m⟩)) i;exact .inr ⟨g,c,e,h2.p hz f,b.p f,i⟩}
def LRw.agr{V:E}{v:ZB}{R:List DR}(h:LRw w base v R)(b:Agr base w V):LRw V base v R:=
 ⟨fk h.u b,λr g=>(h.sub r g).ad b.1 λk f hb=>b.2 k hb (by rcases f with⟨c,Z8,e⟩|⟨c,Z8,e⟩<;>exact aj e)⟩
def LRw.bd{c:Nat}{R:List DR}(h:LRw w base (Z a (z R) c) R):SlDeed w a (z R) (dF (R.map (·.1))):=by
 by_cases hz:z R=0;{exact .inl hz}
 ·obtain⟨g,c',e⟩:=dr h.u (by omega);cases e
  refine .inr ⟨g,0,rfl,(cV h.u).2,λi hi=>?_⟩;obtain⟨r,f,b⟩:=dG hi;rw[iM f];have c:∀j,j<6->∀u,(ddV r)[j]?=Q u->ZV w (T g (0+i*6+j) Y)=Q u:=λj x u t=>by rw[show 0+i*6+j=i*6+j by omega];exact(iU h.u f j x t).1
  have q:DSub w base ({ r.1 with h:=0 },Z Y 0 0,r.2.2):=⟨CP _ _ _ _,(h.sub r b).az⟩
  obtain⟨l,c5,n,p⟩:=q.m;obtain⟨m,c4,o,s⟩:∃a j_,r.2.1=Z a r.1.h j_/\SlIns w a r.1.h r.1.q:=by
   rcases(h.sub r b).q with⟨h1,c,e⟩|⟨g,c,e,h2,-,-⟩
   {exact⟨Y,c,by rw[h1];exact e,.inl h1⟩};{exact⟨_,c,e,.inr ⟨g,0,rfl,h2⟩⟩}
  exact⟨c 0 (by omega) _ rfl,c 1 (by omega) _ rfl,c 2 (by omega) _ rfl,c 3 (by omega) _ rfl,⟨m,c4,by rw[<-o];exact c 4 (by omega) _ rfl,s⟩,⟨l,c5,by rw[<-show r.2.2=_ from n];exact c 5 (by omega) _ rfl,p⟩⟩
def Je{c:Nat}{R:List DR}(h:LRw w base (Z a n c) R)(e:n=z R)(b:∀r∈R,FitD r.1)(hn:z R<=50000):HAc base w a n c (dF (R.map (·.1))):=by subst e;refine⟨λV f=>(h.agr f).bd,jY h.u,hn,λi hi=>?_⟩;obtain⟨r,j,g⟩:=dG hi;rw[iM j];exact b r g
def TRow.ad{v:ZB}{R:List TR}(h:TRow w base v R)(hz:A (B w)<=A (B w'))(hb:∀k,Qk w k 86\/Qk w k 102->w'.heap[k]?=w.heap[k]?):TRow w' base v R:=by
 refine⟨?_,λr l=>?_,h.up⟩
 ·refine⟨h.u.1,?_⟩;rcases h.u.2 with h1|⟨g,j_,b,rfl,f,i,h2⟩
  {exact .inl h1};{exact .inr ⟨g,j_,b,rfl,f,(hb g (.inl ⟨b,i⟩)).k i,h2⟩}
 {obtain⟨h1,⟨F,h2⟩,j,m⟩:=h.q r l;have e:=hb r.2.1 (.inr j);exact⟨h1.p hz e,⟨F,h2.p hz e⟩,j.p e,m⟩}
structure LgS (w:E)(sb X:Nat)(W:E)(v0:ZB)(a1:O_)(c1:Nat)(RT:List TR)(a:O_)(c:Nat)(D:List DR):Prop where
 rs:W.heap[A (B w)]?=Q (N #[Z Y 0 0] 25 (0,0))
 sx:W.heap[sb]?=Q (N #[v0,Z a1 (z RT) c1] 29 (0,0))
 bx:W.heap[X]?=Q (N #[Z a (z D) c] 25 (0,0))
 tg:TRow W (A (B w)+1) (Z a1 (z RT) c1) RT
 row:LRw W (A (B w)+1) (Z a (z D) c) D
 aq:∀r∈D,FitK 0 r.1
 lo:A (B w)<X
 bl:Below (A (B w)) w W
section
variable {w W W':E}{sb X c1 c c' g:Nat}{v0:ZB}{a1:O_}{a':O_}{RT:List TR}{D:List DR}{r:DR}
def LgS.aa (h:LgS w sb X W v0 a1 c1 RT a c D)(hb:Below (A (B W)) W W'):LgS w sb X W' v0 a1 c1 RT a c D:=
 ⟨(hb.p _ (aj h.rs)).k h.rs,(hb.p _ (aj h.sx)).k h.sx,(hb.p _ (aj h.bx)).k h.bx,h.tg.aa hb ly,h.row.agr (de hb ly),h.aq,h.lo,h.bl.k (hb.P h.bl.size)⟩
def LgS.more (h:LgS w sb X W v0 a1 c1 RT (Q (T g 0 Y)) c D)(hz:A (B W)<=A (B W'))(keep:∀k,k<A (B W)->k≠g->k≠X->W'.heap[k]?=W.heap[k]?)(o:W'.heap[X]?=Q (N #[Z a' (z D+1) c'] 25 (0,0)))
  (m:ZX W' (A (B w)+1) 62 6 (Z a' (z D+1) c') (z D+1) (D.flatMap ddV++ddV r)) (s:LSub W' (A (B w)+1) r) (q:FitK 0 r.1) (hb:Below (A (B w)) w W'):LgS w sb X W' v0 a1 c1 RT a' c' (D++[r]):=by
 have hlo:=h.lo;obtain⟨cs,Z8,t⟩:=fS h.row.u g rfl;have hgb:=(h.row.u.lt g rfl).1;have j:∀(k:Nat) (i:Array ZB) (e:TypeId) (l:Nat × Nat),W.heap[k]?=Q (Obj.cells i e l)->e≠62->e≠25->W'.heap[k]?=W.heap[k]?:=λk i e l b h1 h2=>by
  refine keep k (aj b) (λn=>?_) λn=>?_;{rw[n,t] at b;simp at b;exact h1 b.2.1.c};{rw[n,h.bx] at b;simp at b;exact h2 b.2.1.c}
 have p:(D++[r]).length=z D+1:=by simp
 refine⟨(keep _ (aj h.rs) (by omega) (by omega)).k h.rs,(j _ _ _ _ h.sx (by decide) (by decide)).k h.sx,by rw[p];exact o,h.tg.ad hz λk b=>?_,⟨?_,λx f=>?_⟩,λx f=>?_,h.lo,hb⟩
 ·rcases b with⟨i,b⟩|⟨i,b⟩
  {exact j _ _ _ _ b (by decide) (by decide)};{exact j _ _ _ _ b (by decide) (by decide)}
 {rw[p,KE];simpa using m}
 ·rcases p8.1 f with f|f
  ·refine(h.row.sub x f).ad hz λk b _=>?_;rcases b with⟨i,l,b⟩|⟨i,l,b⟩
   {exact j _ _ _ _ b (by decide) (by decide)};{exact j _ _ _ _ b (by decide) (by decide)}
  {rw[j4.1 f];exact s}
 {rcases p8.1 f with f|f;{exact h.aq x f};{rw[j4.1 f];exact q}}
end
def Aw (b f:F_)(an:Nat)(act:Nat->Ins)(Z8:Int):au:=⟨b,3,0,⟨#[103,114,111,117,110,100]⟩,an,act,1,λ_=>⟨f,ZH,ZA,Z8⟩⟩
def Dm (w:E)(base:Nat)(hb:base<=A (B w))(f b:F_)(an:Nat)(act:Nat->Ins)(Z8:Int):(ZU w (N #[U b,ZF ZH,ZF ZA,J I Z8] 65)).ownsRow base 65 4 (Z (Q (T (A (B w)) 0 Y)) 1 1) 1 (cy (Aw f b an act Z8).m 1):=
 ⟨rfl,.inr ⟨A (B w),1,_,rfl,hb,gM w _,p7 _,by unfold maxLen;omega,rfl,rfl⟩⟩
def Gi{b f:F_}{an:Nat}{act:Nat->Ins}{Z8:Int}(h1:b.size<=5000)(h2:f.size<=5000)(h:an<=200)(g:∀j,j<an->(act j).s.size<=5000):FitK 0 (Aw b f an act Z8):=
 ⟨h1,by show(⟨#[103,114,111,117,110,100]⟩:F_).size<=2000;decide,h,g,by show 1<=200;omega,λ_ _=>h2⟩
def qT:GL:=by
 intro n w hn;obtain⟨Hx,hi,JP,Fk,JG⟩:=NP gC;obtain⟨W0,ZO⟩:∃W:E,ZU w (N #[Z Y 0 0] 25)=W:=⟨_,rfl⟩
 obtain⟨A0,K0,hz0⟩:=nb1 ZO;have la:=ae ZO;clear ZO;have hw1:IntKind.i64.wrap ((n:Int) - 1)=(n:Int) - 1:=by rw[nL];omega
 go_enter func53,ntmps53;go_wp2_with fail;rw[la.i];clear la;refine(kO n (by omega) ⟨#[97]⟩ (by decide) W0).P ?_;rintro e ZS⟨b0,n0,c0,f0,a1,c1,RT,rfl,ph,-,-,hT,hG,hN,hB⟩;have HG:=ae hG;have JS:=ae (λr s=>(hN r s).1);have JM:=ae (λr s=>(hN r s).2);have DE:=ae ph;have hs1:=hB.size;obtain⟨W1,hW⟩:∃W:E,ZU (ZU (ZU ZS (N #[Z b0 n0 c0,Z a1 (z RT) c1] 29)) (N #[U ⟨#[97]⟩,J I 1,J I 0,U ⟨#[103,114,111,117,110,100]⟩,Z Y 0 0,Z Y 0 0] 62)) (N #[Z (Q (T (A (B ZS)+1) 0 Y)) 1 1] 25)=W:=⟨_,rfl⟩
 obtain⟨AC,kS,kD,kX,-⟩:=nb3 hW;have HW:=ae hW;clear hW;have S1:Hid (LgS w (A (B ZS)) (A (B ZS)+2) W1 (Z b0 n0 c0) a1 c1 RT (Q (T (A (B ZS)+1) 0 Y)) 1 [mJ ⟨#[97]⟩ ⟨#[103,114,111,117,110,100]⟩ 1]):=by
  refine⟨(AC.p (A (B w)) (by omega)).k ((hB.p (A (B w)) (by omega)).k K0),kS,kX,(hT.P (by omega)).aa AC ly,⟨⟨rfl,.inr ⟨A (B ZS)+1,1,_,rfl,by omega,kD.i,p7 _,by unfold maxLen;omega,rfl,rfl⟩⟩,λr s=>?_⟩,λr s=>?_,by omega,(A0.k (hB.P (by omega))).k (AC.P (by omega))⟩;{rw[j4.1 s];exact⟨.inl ⟨rfl,0,rfl⟩,CP _ _ _ _⟩};{rw[j4.1 s];exact wu 1 (by decide) (by decide)}
 clear AC kS kD kX hT hG hN hB A0 K0 ph;go_wp2_with fail;rw[HW.i];clear HW;generalize (A (B ZS))+2=X at S1 ⊢;generalize (A (B ZS))=sb at S1 ⊢;go_loopw [5] (λi wr=>∃(m:Nat) (Z8:Int) (a:O_) (c:Nat) (D:List DR),i=J I Z8/\Z8=(m:Int) - 1/\m<=n/\(z D)+m=n+1/\Hid (LgS w sb X wr (Z b0 n0 c0) a1 c1 RT a c D)) (λi _=>(intOf i+1).toNat);case atStart=>exact⟨n,_,_,_,_,rfl,rfl,p7 _,by simp;omega,S1⟩
 case round =>
  clear S1;obtain⟨m,Z8,a,c,D,rfl,hz,ZM,hD,b⟩:=hrel;have HD:=ae hD;clear hD;by_cases h0:m=0
  ·subst h0;obtain rfl:Z8=-1:=by omega
   have JJ:z D<=50000:=by have:=HD.i;omega
   have HE:=ae ((Je (b.row.agr (fl (j:=0) (eL (A (B w))) (Z a (z D) c))) rfl (λr s=>(b.aq r s).d (by omega)) JJ).P (BV (A (B w))));have GS:z D<=450:=by have:=HD.i;omega
   have FE:=ae (λ(i:Nat) (hi:i<z D)=>show FitK 0 (dF (D.map (·.1)) i) by
    obtain⟨r,s,ZM⟩:=dG hi;rw[iM s]
    exact b.aq r ZM)
   have BE:=ae (b.bl.setCell (p:=(T (A (B w)) 0 Y)) ly (Z a (z D) c));have kr:=b.rs;have y:=b.bx;have r0:ZV wr (T (A (B w)) 0 Y)=Q (Z Y 0 0):=by simp[World.cell?,kr]
   have q0:ZW wr (T (A (B w)) 0 Y)=ZA:=by simp[World.frozen?,kr]
   have x0:ZV wr (T X 0 Y)=Q (Z a (z D) c):=by simp[World.cell?,y]
   have l0:=aj kr;have l1:=aj y;clear kr y hz;go_wp2;exact bp (v:=ZJ #[Z a (z D) c]) (by simp[results,results53,go_sem,r0]) rfl ⟨_,_,_,_,rfl,HE,BE,GS,FE⟩
  ·obtain⟨k,rfl⟩:∃k,m=k+1:=⟨m - 1,by omega⟩
   obtain rfl:Z8=(k:Int):=by omega
   clear hz h0;have JQ:k<z RT:=by have:=DE.i;omega
   have JO:0<z D:=by have:=HD.i;omega
   have hDn:z D<=100:=by have:=HD.i;omega
   obtain⟨g,c',e⟩:=dr b.row.u JO;obtain⟨rfl,-,-⟩:=T6 e;clear e c';obtain⟨L,hL⟩:∃L,z D=L+1:=⟨z D - 1,by omega⟩
   obtain⟨rl,ZY,ro⟩:=dG (R:=D) (i:=L) (by omega);have e0:=(iU b.row.u ZY 0 (by omega) (u:=U rl.1.e) rfl).1;rw[QF] at e0;have n8:=(b.aq rl ro).nm;have hwL:IntKind.i64.wrap ((z D:Int) - 1)=(L:Int):=by rw[nL];omega
   have hLl:(L:Int)<(z D:Int):=by omega
   obtain⟨l,r,ex,ZR,M,t0,t1,-⟩:=b.tg.atk JQ;obtain⟨ur,-,fd,JK⟩:=b.tg.q r M;have n9:=ae ur;have Bk:=ae fd;obtain⟨-,sm⟩:=HG.i r M;have JH:r.1.h<=200:=by have:=JM.i r M;omega
   have JN:=ae sm;have DQ:=JS.i r M;have y:=b.bx;have ZL:=b.sx;rw[ex] at ZL;have x0:ZV wr (T X 0 Y)=Q (Z (Q (T g 0 Y)) (z D) c):=by simp[World.cell?,y]
   have y0:ZW wr (T X 0 Y)=ZA:=by simp[World.frozen?,y]
   have x1:ZV wr (T sb 1 Y)=Q (Z (Q (T l 0 Y)) (z RT) c1):=by simp[World.cell?,ZL]
   have l0:=aj y;have l1:=aj ZL;obtain⟨cg,zg,kg⟩:=fS b.row.u g rfl;have lg:=aj kg;have At:X≠g:=λe=>by rw[e,kg] at y;simp at y
   have Id:sb≠g:=λe=>by rw[e,kg] at ZL;simp at ZL
   have th:l≠g:=λe=>by obtain⟨cur,hc⟩:=b.tg.type l (by rw[ex];rfl);rw[e,kg] at hc;simp at hc
   have hgb:=(b.row.u.lt g rfl).1;have hlo:=b.lo;have qr:=b.bl.size;clear y ZL ur fd sm ZY ro M ex kg;have SQ:Hid (∀V:E,(∀j,j<A (B wr)->j≠g->V.heap[j]?=wr.heap[j]?)->ZV V (T X 0 Y)=Q (Z (Q (T g 0 Y)) (z D) c)/\ZV V (T sb 1 Y)=Q (Z (Q (T l 0 Y)) (z RT) c1)/\ZV V (T l (k*2) Y)=Q (U r.1.e)/\ZV V (T l (k*2+1) Y)=Q (Z (Q (T r.2.1 0 Y)) r.1.h r.2.2)):=λV hV=>⟨(cq (a:=(T X 0 Y)) (hV X l0 At)).k x0,(cq (a:=(T sb 1 Y)) (hV sb l1 Id)).k x1,(cq (a:=(T l (k*2) Y)) (hV l ZR th)).k t0,(cq (a:=(T l (k*2+1) Y)) (hV l ZR th)).k t1⟩
   have HL:=ae hL;clear hL;generalize rl.1.e=S at e0 n8;go_upto_region 7 with fail;have hk2:(k:Int)<(z RT:Int):=by omega
   go_wp2_with fail;refine aI (λV=>ZV V (T X 0 Y)=Q (Z (Q (T g 0 Y)) (z D) c)/\ZV V (T sb 1 Y)=Q (Z (Q (T l 0 Y)) (z RT) c1)/\ZV V (T l (k*2) Y)=Q (U r.1.e)/\ZV V (T l (k*2+1) Y)=Q (Z (Q (T r.2.1 0 Y)) r.1.h r.2.2)) 25 (by kernel_rfl) ?_;have ZT:=ae (b.aa br.drew);have ZZ:Hid (∀V:E,(∀j,j<wr.drew.heap.size->j≠g->V.heap[j]?=wr.drew.heap[j]?)->ZV V (T X 0 Y)=Q (Z (Q (T g 0 Y)) (z D) c)/\ZV V (T sb 1 Y)=Q (Z (Q (T l 0 Y)) (z RT) c1)/\ZV V (T l (k*2) Y)=Q (U r.1.e)/\ZV V (T l (k*2+1) Y)=Q (Z (Q (T r.2.1 0 Y)) r.1.h r.2.2)):=SQ;have ZP:Hid (Qj wr.drew r.2.1 0 r.1.h r.1.q):=n9.aa br.drew ly;have H:Hid (Qk wr.drew r.2.1 102):=Bk;have l2:X<wr.drew.heap.size:=l0;have mv:A (B w)<=wr.drew.heap.size:=qr;clear b SQ n9 Bk l0 l1 lg ZR x0 x1 y0 t0 t1 e0 qr;generalize wr.drew=v at ZT ZZ ZP H l2 mv ⊢;have o:=ae (ZZ v (λj _ _=>rfl));iterate 20
    refine aO 0 (v:=?_) rfl rfl (by kernel_rfl) (λ_ _ _ h=>h) rfl ?_ o ?_;rotate_left
    ·(rintro wz⟨s0,s1,s2,s3⟩;go_simp)
     (try with_reducible rfl)
    (try simp only[Act.put,z_])
   have BA:=ae ((BS v).alloc ly (N #[U S,ZF ZH,ZF ZA,J I L] 65));have hx1:=ZT.lo;have JL:A (B (ZU v (N #[U S,ZF ZH,ZF ZA,J I L] 65)))=A (B v)+1:=by simp
   have OL:=ae (Dm v (A (B w)+1) (by omega) r.1.e S r.1.h r.1.q (L:Int));refine ai (i:=20) rfl (by kernel_rfl) λK f=>?_;go_simp;clear o;have o:=ae (ZZ _ (λj G _=>BA.p j G));refine f _ _ (λ_=>o) ?_;clear f K
   (try simp only[Act.put,z_])
   refine ai (i:=21) rfl (by kernel_rfl) λK f=>?_;go_simp;refine f _ _ (λ_=>o) ?_;clear f K
   (try simp only[Act.put,z_])
   have JI:=BA.size;have ZQ:=ae (BA.alloc JI (N #[U r.1.e,J I 3,J I 0,U ⟨#[103,114,111,117,110,100]⟩,Z (Q (T r.2.1 0 Y)) r.1.h r.2.2,Z (Q (T (A (B v)) 0 Y)) 1 1] 62));refine ai (i:=22) rfl (by kernel_rfl) λK f=>?_;go_simp;clear o;have o:=ae (ZZ _ (λj G _=>ZQ.p j G));refine f _ _ (λ_=>o) ?_;clear f K
   (try simp only[Act.put,z_])
   have OW:=ae (K_ ZT.row.u ZQ ly);obtain⟨WC,O⟩:∃W:E,ZU (ZU v (N #[U S,ZF ZH,ZF ZA,J I L] 65)) (N #[U r.1.e,J I 3,J I 0,U ⟨#[103,114,111,117,110,100]⟩,Z (Q (T r.2.1 0 Y)) r.1.h r.2.2,Z (Q (T (A (B v)) 0 Y)) 1 1] 62)=W:=⟨_,rfl⟩
   obtain⟨-,-,-,hzC⟩:=nb2 O;have P:=ae O;clear O;have NC:Hid (∀j u,[Value.string r.1.e,J I 3,J I 0,U ⟨#[103,114,111,117,110,100]⟩,Z (Q (T r.2.1 0 Y)) r.1.h r.2.2,Z (Q (T (A (B v)) 0 Y)) 1 1][j]?=Q u->WC.cell? (((T (A (B v)+1) 0 Y):Addr).add j)=Q u):=by rw[<-P.i];have h:=eQ (ZU v (N #[U S,ZF ZH,ZF ZA,J I L] 65)) #[U r.1.e,J I 3,J I 0,U ⟨#[103,114,111,117,110,100]⟩,Z (Q (T r.2.1 0 Y)) r.1.h r.2.2,Z (Q (T (A (B v)) 0 Y)) 1 1] 62;rw[JL] at h;exact h
   have OK:=ae (K_ OL ((a8 _ (ZU v (N #[U S,ZF ZH,ZF ZA,J I L] 65))).alloc ly (N #[U r.1.e,J I 3,J I 0,U ⟨#[103,114,111,117,110,100]⟩,Z (Q (T r.2.1 0 Y)) r.1.h r.2.2,Z (Q (T (A (B v)) 0 Y)) 1 1] 62)) ly);clear OL;rw[P.i] at ZQ OW OK o ⊢;clear P;refine ai (i:=23) rfl (by kernel_rfl) λK f=>?_;refine aU rfl (.tmp 28) (.tmp 49) 23 rfl (A (B w)+1) 62 Hx (ZJ #[U ⟨#[]⟩,J I 0,J I 0,U ⟨#[]⟩,Z Y 0 0,Z Y 0 0]) 6 96 QC hi JP Fk JG rfl (by decide) (Z (Q (T g 0 Y)) (z D) c) (z D) (D.flatMap ddV) (by simp[Act.eval]) OW.i (T (A (B v)+1) 0 Y) 1 1 [U r.1.e,J I 3,J I 0,U ⟨#[103,114,111,117,110,100]⟩,Z (Q (T r.2.1 0 Y)) r.1.h r.2.2,Z (Q (T (A (B v)) 0 Y)) 1 1] (by simp[Act.eval]) rfl NC.i (by simp[Value.oneCell']) (by unfold maxLen;omega) (by omega) (by omega) ?_;intro v' t C q Fm;obtain⟨ZN,c',rfl⟩:=dr C (by omega);have KG:Hid (∀j,j<A (B WC)->j≠g->t.heap[j]?=WC.heap[j]?):=λj G ld=>q.p j G (λe=>ld (IN (show Q j=Q g from e)));have hz6:=q.size;clear o;have o:=ae (ZZ t (λj G ld=>(KG j (by omega) ld).k (ZQ.p j G)));refine f _ _ (λ_=>o) ?_;clear f K
   (try simp only[Act.put,z_])
   refine ai (i:=24) rfl (by kernel_rfl) λK f=>?_;go_simp;refine f _ _ (λ_=>o) ?_;clear f K
   (try simp only[Act.put,z_])
   have HO:=ae C;have k6:t.heap[X]?=v.heap[X]?:=(KG X (by omega) At).k (ZQ.p X l2);have x:=k6.k ZT.bx;have z0:ZV t (T X 0 Y)=Q (Z (Q (T g 0 Y)) (z D) c):=by simp[World.cell?,x]
   have z1:ZW t (T X 0 Y)=ZA:=by simp[World.frozen?,x]
   have z2:=aj x;have JR:X≠ZN:=λe=>by obtain⟨cc,zz,hc⟩:=fS C ZN rfl;rw[e,hc] at x;simp at x
   clear C;refine ai (i:=25) rfl (by kernel_rfl) λK f=>?_;go_simp;refine f _ _ (λh=>absurd rfl h) ?_;clear f K o
   (try simp only[Act.put,z_])
   refine ba (by kernel_rfl) ?_ _;have keep:∀j,j<A (B v)->j≠g->j≠X->(t.setCell (T X 0 Y) (Z (Q (T ZN 0 Y)) (z D+1) c')).heap[j]?=v.heap[j]?:=λj G h1 h2=>(qh t (T X 0 Y) _ j h2).k ((KG j (by omega) h1).k (ZQ.p j G));have aq:r.2.1≠g:=λe=>by obtain⟨c5,z5,h5⟩:=fS ZT.row.u g rfl;obtain⟨c6,h6⟩:=H.i;rw[e,h5] at h6;simp at h6
   have bt:r.2.1≠X:=λe=>by obtain⟨c6,h6⟩:=H.i;rw[e,ZT.bx] at h6;simp at h6
   have ZY:=ZP.1;have ZR:=(ZT.row.u.lt g rfl).2
   have S9:=ae (ZT.more (r:=(Aw r.1.e S r.1.h r.1.q (L:Int),Z (Q (T r.2.1 0 Y)) r.1.h r.2.2,Z (Q (T (A (B v)) 0 Y)) 1 1)) (a':=Q (T ZN 0 Y)) (c':=c') (W':=t.setCell (T X 0 Y) (Z (Q (T ZN 0 Y)) (z D+1) c')) (by simp;omega) keep (cH x _)
    (ew HO λm ZM _=>qh t (T X 0 Y) _ m (λe=>JR (e.c.k (IN (show Q m=Q ZN from ZM.c ▸ rfl)))))
    ⟨.inr ⟨r.2.1,r.2.2,rfl,ZP.p (by simp;omega) (keep _ ZY aq bt),H.p (keep _ ZY aq bt),JK⟩,ew OK λm ZM _=>by
     obtain rfl:A (B v)=m:=IN ZM
     exact(qh t (T X 0 Y) _ _ (by show (A (B v))≠X;omega)).k (KG _ (by omega) (by omega))⟩
    (Gi DQ n8 JH JN)
    (((ZT.bl.k (ZQ.P mv)).k (bg (a8 (A (B w)) WC) q (by omega) (λk' e=>by have e2:=IN (show Q g=Q k' from e);omega))).setCell (p:=(T X 0 Y)) (by show (A (B w))<=X;omega) _))
   clear keep aq bt ZY ZR q Fm HO OK OW NC KG BA ZQ ZZ ZP H x k6 z0 z1 z2;generalize World.setCell t _ _=W9 at S9 ⊢;have hwk:IntKind.i64.wrap ((k:Int) - 1)=(k:Int) - 1:=by rw[nL];omega
   go_wp2;refine⟨⟨k,(k:Int) - 1,_,_,_,by go_num,rfl,by omega,?_,S9⟩,by simp[intOf]⟩;have:=HD.i;rw[cM,AI];omega
