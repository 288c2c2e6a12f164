import Derived.Test.YtcnilonhfpimnaaGreatDoorEE
import Derived.Test.YtcnilonhfpimnaaGreatDoorEO
import Derived.Deep.AppendLies
set_option linter.all false
set_option maxRecDepth 100000
set_option maxHeartbeats 8000000
open Go renaming Addr.mk->T,Value.slice->Y,Value.string->U,Value.int->J,Value.bool->ZF,Value.agg->ZJ,Obj.cells->N,IntKind.i64->I,World->E,Value->ZB,Ending.returned->ZI,World.heap->B,World.ownsRow->ZY,World.alloc->ZV,World.cell?->ZW,World.frozen?->ZX,World.setCell->z,Act.put->p_
open Option renaming none->Z,some->Q
open Bool renaming false->ZA,true->ZH
open Array renaming size->A
open List renaming length->ZU
namespace Go.Proofs.YtcnilonhfpimnaaGreatDoor.Vp
open Tryz RowKit Ca
variable {w W w0 w':E}{base g n j R b q X ZO i:Nat}{a:O_}{D:List DR}{f:Nat->Link}{u v0 v1 v2 v3 v4:ZB}{r:DR}{y:Link}
def LBx (W:E)(b:Nat)(v0 v1 v2 v3 v4 v5:ZB):Prop:=W.heap[b]?=Q (N #[v0,v1,v2,v3,v4,v5] 62 (0,0))
section
variable {W W':E}{b:Nat}{v0 v1 v2 v3 v4 v5:ZB}
def LBx.lt (h:LBx W b v0 v1 v2 v3 v4 v5):b<A (B W):=aj h
def LBx.cells (h:LBx W b v0 v1 v2 v3 v4 v5):ZW W (T b 0 Z)=Q v0/\ZW W (T b 1 Z)=Q v1/\ZW W (T b 2 Z)=Q v2/\ZW W (T b 3 Z)=Q v3/\ZW W (T b 4 Z)=Q v4/\ZW W (T b 5 Z)=Q v5:=by have f:W.heap[b]?=Q (N #[v0,v1,v2,v3,v4,v5] 62 (0,0)):=h;refine⟨?_,?_,?_,?_,?_,?_⟩<;>simp[World.cell?,f]
def LBx.fz (h:LBx W b v0 v1 v2 v3 v4 v5)(j:Nat):ZX W (T b j Z)=ZA:=by have f:W.heap[b]?=Q (N #[v0,v1,v2,v3,v4,v5] 62 (0,0)):=h;simp[World.frozen?,f]
def LBx.ad (h:LBx W b v0 v1 v2 v3 v4 v5)(e:W'.heap[b]?=W.heap[b]?):LBx W' b v0 v1 v2 v3 v4 v5:=e.k h
def LBx.set5 (h:LBx W b v0 v1 v2 v3 v4 v5)(u:ZB):LBx (z W (T b 5 Z) u) b v0 v1 v2 v3 v4 u:=by have f:W.heap[b]?=Q (N #[v0,v1,v2,v3,v4,v5] 62 (0,0)):=h;show(z W (T b 5 Z) u).heap[b]?=_;simp[World.setCell,NQ,f]
end
def Dl{b:Type}(f:Nat->b)(n k:Nat)(y:b):((List.range n).map f).set k y=(List.range n).map (λi=>if i=k then y else f i):=by
 refine UG λi=>?_;rw[List.getElem?_set,LR,LR];by_cases hi:i<n;{by_cases e:k=i;{subst e;simp[hi]};{have g:¬ i=k:=λh=>e h.c;simp[hi,e,g]}};{by_cases e:k=i;{subst e;simp[hi]};{simp[hi,e]}}
def yF{c k:Nat}(h:ZY w base 65 4 (Y (Q (T g 0 Z)) n c) n (cy f n))(o:k<n)(l:j<4)(m:du y=(du (f k)).set j u):(z w (T g (k*4+j) Z) u).ownsRow base 65 4 (Y (Q (T g 0 Z)) n c) n (cy (λi=>if i=k then y else f i) n):=by have b:=gU (j:=k*4+j) h u;have e:=ku du 4 (λ_=>rfl) l m ((List.range n).map f) k (by simp[o]);rw[Dl] at e;unfold cy at b ⊢;rw[e] at b;exact b
def cZ{c k:Nat}(h:ZY w base 65 4 (Y (Q (T g 0 Z)) n c) n (cy f n))(l:k<n)(i:j<4)(b:(du (f k))[j]?=Q u):ZW w (T g (k*4+j) Z)=Q u/\ZX w (T g (k*4+j) Z)=ZA:=
 bA h (j:=k*4+j) (by rw[jJ f l j i];exact b)
def Il{size c:Nat}{e:TypeId}{f:List ZB}(h:ZY w base e size (Y (Q (T g 0 Z)) n c) n f):base<=g/\∃i,w.heap[g]?=Q (N i e (0,0)):=by
 rcases h.2 with⟨b,_⟩|⟨g',j_,cur,b,hb,j,_⟩
 {cases b}
 ·cases b
  exact⟨hb,_,j⟩
structure LStD (w0 w:E)(R base g0:Nat)(v0 v1 v2 v3 v4:ZB)(W:E)(q g n c:Nat)(f:Nat->Link):Prop where
 bx:LBx W (A (B w)) v0 v1 v2 v3 v4 (Y (Q (T g 0 Z)) n c)
 rs:LBx W (A (B w)+1) (U ⟨#[]⟩) (J I 0) (J I 0) (U ⟨#[]⟩) (Y Z 0 0) (Y Z 0 0)
 rd:Rd W R q
 u:ZY W base 65 4 (Y (Q (T g 0 Z)) n c) n (cy f n)
 on:zt R w0 W
 same:∀k,k<A (B w)->k≠R->k≠g0->W.heap[k]?=w.heap[k]?
 gg:g=g0\/(A (B w))<=g
 nm:∀j,j<n->(f j).e.size<=5000
 hR:R<A (B w0)
 hb:A (B w0)<=base
 hbw:base<=A (B w)
section
variable {w0 w W W':E}{R base g0 q q' g n c:Nat}{v0 v1 v2 v3 v4:ZB}{f:Nat->Link}
def LStD.lt (h:LStD w0 w R base g0 v0 v1 v2 v3 v4 W q g n c f):A (B w)+2<=A (B W):=h.rs.lt
def LStD.ac (h:LStD w0 w R base g0 v0 v1 v2 v3 v4 W q g n c f)(b:zt R W W')(m:Rd W' R q'):LStD w0 w R base g0 v0 v1 v2 v3 v4 W' q' g n c f:=by have h1:=h.hR;have h2:=h.hb;have l:=h.hbw;have h4:=h.lt;exact⟨h.bx.ad (b.p _ h.bx.lt (by omega)),h.rs.ad (b.p _ h.rs.lt (by omega)),m,gE h.u b (by omega),h.on.k b,λk o i j=>(b.p k (by omega) i).k (h.same k o i j),h.gg,h.nm,h1,h2,l⟩
def LStD.aa (h:LStD w0 w R base g0 v0 v1 v2 v3 v4 W q g n c f)(b:Below (A (B W)) W W'):LStD w0 w R base g0 v0 v1 v2 v3 v4 W' q g n c f:=h.ac (zt.l b) (h.rd.aa b ly)
def LStD.gne (h:LStD w0 w R base g0 v0 v1 v2 v3 v4 W q g n c f):g≠A (B w)/\g≠A (B w)+1/\base<=g/\g<A (B W):=by
 obtain⟨hb,cs,b⟩:=Il h.u;refine⟨λe=>?_,λe=>?_,hb,aj b⟩;{have:=h.bx;unfold LBx at this;rw[<-e,b] at this;cases this};{have:=h.rs;unfold LBx at this;rw[<-e,b] at this;cases this}
def LStD.setL{k:Nat}(h:LStD w0 w R base g0 v0 v1 v2 v3 v4 W q g n c f)(C:k<n)(t:j<4)(Z9:du y=(du (f k)).set j u)(Z8:y.e.size<=5000):LStD w0 w R base g0 v0 v1 v2 v3 v4 (z W (T g (k*4+j) Z) u) q g n c (λi=>if i=k then y else f i):=by
 obtain⟨s,ZZ,x,e4⟩:=h.gne;have h1:=h.hR;have h2:=h.hb;have o:Below base W (z W (T g (k*4+j) Z) u):=br.setCell (p:=(T g (k*4+j) Z)) x u;have far:∀m,m≠g->(z W (T g (k*4+j) Z) u).heap[m]?=W.heap[m]?:=λm l=>qh W (T g (k*4+j) Z) u m (by simpa using l);refine⟨h.bx.ad (far _ (λe=>s e.c)),h.rs.ad (far _ (λe=>ZZ e.c)),h.rd.low o (by omega),yF h.u C t Z9,h.on.then (o.P h2),λm l r b=>(far m ?_).k (h.same m l r b),h.gg,λi hi=>?_,h1,h2,h.hbw⟩;{rcases h.gg with e|e;{rw[e];exact b};{omega}};{show(if i=k then y else f i).e.size<=5000;split;{exact Z8};{exact h.nm i hi}}
def LStD.setB{n1 c1:Nat}{f1:Nat->Link}(h:LStD w0 w R base g0 v0 v1 v2 v3 v4 W q g n c f)(i:W.grownBy W' (Q g))(D:ZY W' base 65 4 (Y (Q (T b 0 Z)) n1 c1) n1 (cy f1 n1))(C:b=g\/(A (B w))<=b)(hn:∀j,j<n1->(f1 j).e.size<=5000):LStD w0 w R base g0 v0 v1 v2 v3 v4 (z W' (T (A (B w)) 5 Z) (Y (Q (T b 0 Z)) n1 c1)) q b n1 c1 f1:=by
 obtain⟨Z9,ZT,Z8,e4⟩:=h.gne;have h1:=h.hR;have h2:=h.hb;have t:=h.hbw;have h4:=h.lt;have hw0:=h.on.size;have ZZ:Below base W W':=bg br i (by omega) (λj e=>by cases e;exact Z8);have s:Below base W (z W' (T (A (B w)) 5 Z) (Y (Q (T b 0 Z)) n1 c1)):=ZZ.setCell (p:=(T (A (B w)) 5 Z)) t _;have l:LBx W' (A (B w)) v0 v1 v2 v3 v4 (Y (Q (T g 0 Z)) n c):=h.bx.ad (i.p _ h.bx.lt (by simpa using λe=>Z9 e.c));have u:=h.rs.ad (i.p _ h.rs.lt (by simpa using λe=>ZT e.c));have far:∀m,m≠A (B w)->(z W' (T (A (B w)) 5 Z) (Y (Q (T b 0 Z)) n1 c1)).heap[m]?=W'.heap[m]?:=λm r=>qh W' (T (A (B w)) 5 Z) _ m (by simpa using r);refine⟨l.set5 _,u.ad (far _ (by omega)),h.rd.low s (by omega),dJ D l (by decide) _,h.on.then (s.P h2),λm r x o=>?_,?_,hn,h1,h2,t⟩
 ·refine(far m (by omega)).k ((i.p m (by omega) ?_).k (h.same m r x o));rcases h.gg with e|e;{simpa[e] using o}
  ·intro y;have:m=g:=by simpa using y
   omega
 {rcases C with e|e;{rw[e];exact h.gg};{exact .inr e}}
end
def qS (W:E)(r:Option Nat):W.grownBy W r:=⟨rfl,rfl,rfl,p7 _,λ_ _ _=>rfl⟩
def Im{p c:Nat}(o:zt R w0 w)(hR:R<A (B w0))(hb:A (B w0)<=base)(hbw:base<=A (B w))(m:Rd w R p)(h:ZY w base 65 4 (Y (Q (T g 0 Z)) n c) n (cy f n))(l:∀j,j<n->(f j).e.size<=5000):LStD w0 w R base g v0 v1 v2 v3 v4 (ZV (ZV w (N #[v0,v1,v2,v3,v4,Y (Q (T g 0 Z)) n c] 62)) (N #[U ⟨#[]⟩,J I 0,J I 0,U ⟨#[]⟩,Y Z 0 0,Y Z 0 0] 62)) p g n c f:=by
 have b:=(BS w).alloc ly (N #[v0,v1,v2,v3,v4,Y (Q (T g 0 Z)) n c] 62);have hz:A (B (ZV w (N #[v0,v1,v2,v3,v4,Y (Q (T g 0 Z)) n c] 62)))=A (B w)+1:=by simp
 have i:=(a8 (A (B (ZV w (N #[v0,v1,v2,v3,v4,Y (Q (T g 0 Z)) n c] 62)))) (ZV w (N #[v0,v1,v2,v3,v4,Y (Q (T g 0 Z)) n c] 62))).alloc ly (N #[U ⟨#[]⟩,J I 0,J I 0,U ⟨#[]⟩,Y Z 0 0,Y Z 0 0] 62);have ZZ:=b.k (i.P b.size);have h2:=gM (ZV w (N #[v0,v1,v2,v3,v4,Y (Q (T g 0 Z)) n c] 62)) (N #[U ⟨#[]⟩,J I 0,J I 0,U ⟨#[]⟩,Y Z 0 0,Y Z 0 0] 62);rw[hz] at h2;exact⟨(i.p (A (B w)) (by rw[hz];omega)).k (gM w _),h2,m.aa ZZ ly,J_ h ZZ ly,o.k (zt.l ZZ),λk q _ _=>ZZ.p k q,.inl rfl,l,hR,hb,hbw⟩
def LBx.six{u0 u1 u2 u3 u4 u5:ZB}(h:LBx W b u0 u1 u2 u3 u4 u5)(v0 v1 v2 v3 v4 v5:ZB):LBx (z (z (z (z (z (z W (T b 0 Z) v0) (T b 1 Z) v1) (T b 2 Z) v2) (T b 3 Z) v3) (T b 4 Z) v4) (T b 5 Z) v5) b v0 v1 v2 v3 v4 v5:=by have f:W.heap[b]?=Q (N #[u0,u1,u2,u3,u4,u5] 62 (0,0)):=h;show(z (z (z (z (z (z W (T b 0 Z) v0) (T b 1 Z) v1) (T b 2 Z) v2) (T b 3 Z) v3) (T b 4 Z) v4) (T b 5 Z) v5).heap[b]?=_;simp[World.setCell,NQ,f]
def rX (W:E)(b m:Nat)(v0 v1 v2 v3 v4 v5:ZB)(f:m≠b):(z (z (z (z (z (z W (T b 0 Z) v0) (T b 1 Z) v1) (T b 2 Z) v2) (T b 3 Z) v3) (T b 4 Z) v4) (T b 5 Z) v5).heap[m]?=W.heap[m]?:=by have far:∀(V:E) (j:Nat) (u:ZB),(z V (T b j Z) u).heap[m]?=V.heap[m]?:=λV j u=>qh V (T b j Z) u m (by simpa using f);rw[far,far,far,far,far,far]
def tk (W:E)(b Z8:Nat)(v0 v1 v2 v3 v4 v5:ZB)(f:Z8<=b):Below Z8 W (z (z (z (z (z (z W (T b 0 Z) v0) (T b 1 Z) v1) (T b 2 Z) v2) (T b 3 Z) v3) (T b 4 Z) v4) (T b 5 Z) v5):=
 ((((((a8 Z8 W).setCell (p:=(T b 0 Z)) f v0).setCell (p:=(T b 1 Z)) f v1).setCell (p:=(T b 2 Z)) f v2).setCell (p:=(T b 3 Z)) f v3).setCell (p:=(T b 4 Z)) f v4).setCell (p:=(T b 5 Z)) f v5
def DL (ZQ:Nat)(w0 w:E)(R base g0:Nat)(v0 v1 v2 v3 v4:ZB)(q:Nat)(e:Ending)(b:E):Prop:=∃(g n c:Nat) (f:Nat->Link),e=ZI (ZJ #[v0,v1,v2,v3,v4,Y (Q (T g 0 Z)) n c])/\ZY b base 65 4 (Y (Q (T g 0 Z)) n c) n (cy f n)/\n<=ZQ+1/\(∀j,j<n->(f j).e.size<=5000)/\(∃q':Nat,q'<=q/\Rd b R q')/\zt R w0 b/\∀k,k<A (B w)->k≠R->k≠g0->b.heap[k]?=w.heap[k]?
def LStD.fin{ZQ:Nat}{g0 c:Nat}(h:LStD w0 w R base g0 v0 v1 v2 v3 v4 W q g n c f)(hn:n<=ZQ+1)(m:q<=ZO)(u0 u1 u2 u3 u4 u5:ZB):DL ZQ w0 w R base g0 v0 v1 v2 v3 v4 ZO (ZI (ZJ #[v0,v1,v2,v3,v4,Y (Q (T g 0 Z)) n c])) (z (z (z (z (z (z W (T (A (B w)+1) 0 Z) u0) (T (A (B w)+1) 1 Z) u1) (T (A (B w)+1) 2 Z) u2) (T (A (B w)+1) 3 Z) u3) (T (A (B w)+1) 4 Z) u4) (T (A (B w)+1) 5 Z) u5):=by
 obtain⟨e1,o,e3,e4⟩:=h.gne;have h1:=h.hR;have h2:=h.hb;have h3:=h.hbw;have j:=tk W (A (B w)+1) base u0 u1 u2 u3 u4 u5 (by omega);refine⟨g,n,c,f,rfl,ew h.u λk b _=>rX _ _ _ _ _ _ _ _ _ ?_,hn,h.nm,⟨q,m,h.rd.low j (by omega)⟩,h.on.then (j.P h2),λk b l i=>(rX _ _ _ _ _ _ _ _ _ (by omega)).k (h.same k b l i)⟩;have:k=g:=by simpa[Value.ownBlock] using b.c
 rw[this];exact o
variable {K:Nat}
def atD (x:au)(j:Nat)(Z9:Int):au:={ x with m:=λi=>if i=j then { x.m j with G:=Z9 } else x.m i }
def FitK.G{x:au}(h:FitK K x)(b:j<x.f)(Z9:Int):FitK K (atD x j Z9):=by
 refine⟨h.nm,h.tx,h.an,h.asz,h.ln,λi hi=>?_⟩;show(if i=j then { x.m j with G:=Z9 } else x.m i).e.size<=5000;split;{exact h.lsz j b};{exact h.lsz i hi}
def SpS.az{c f cl:Nat}(h:SpS K w R X W q a c D)(S:(D.map (·.2.2)).Pairwise Apt)(ZQ:D[i]?=Q r)(C:r.2.2=Y (Q (T f 0 Z)) r.1.f cl)(P:j<r.1.f)(Z9:Int):SpS K w R X (z W (T f (j*4+3) Z) (J I Z9)) q a c (D.set i (atD r.1 j Z9,r.2)):=by
 have y:=I5 ZQ;have hlo:=h.lo;have hX:=h.hX;have hn:(D.set i (atD r.1 j Z9,r.2)).length=ZU D:=NI;obtain⟨cl2,zl,ZS⟩:=fS (h.row.sub r y).az f (by rw[C];rfl);have ZN:A (B w)+2<=f:=((h.row.sub r y).az.lt f (by rw[C];rfl)).1;have V:X≠f:=λe=>by have:=h.bx;rw[e,ZS] at this;simp at this
 have Z8:=(a8 (A (B w)+2) W).setCell (p:=(T f (j*4+3) Z)) ZN (J I Z9);have far:∀m,m≠f->(z W (T f (j*4+3) Z) (J I Z9)).heap[m]?=W.heap[m]?:=λm g=>qh _ _ _ _ g;have M:∀m e,OfTy W m e->e≠65->m≠f:=λm e n ZM t=>by obtain⟨c0,z0,l⟩:=n;rw[t,ZS] at l;simp at l;exact ZM l.2.1.c
 have O:(D.set i (atD r.1 j Z9,r.2)).flatMap ddV=D.flatMap ddV:=by
  have e:∀(L:List DR) (i:Nat),L[i]?=Q r->(L.set i (atD r.1 j Z9,r.2)).flatMap ddV=L.flatMap ddV:=by
   intro L;induction L with
   |nil=>intro i l;simp at l
   |cons x L ih =>
    intro i l;cases i with
    |zero =>
     obtain rfl:x=r:=by simpa using l
     rfl
    |succ i =>
     have h1:L[i]?=Q r:=by simpa using l
     rw[VA,NZ,NZ,ih i h1]
  exact e D i ZQ
 refine⟨h.rd.low Z8 (by omega),h.o.then (Z8.P (by omega)),(Z8.p _ (by omega)).k h.rs,?_,⟨?_,λs hs=>?_⟩,oI h.aq ((h.aq r y).G P Z9),h.lo,h.hX,by rw[hn];exact h.num⟩;{rw[hn];exact(far X V).k h.bx};{rw[hn,O];exact ew h.row.u λm _ n=>far m (M m _ n (by decide))}
 ·obtain⟨k,hi⟩:=PD hs;by_cases e:k=i;{subst e;rw[PE (by rw[<-hn];exact(j5.1 hi).1)] at hi;obtain rfl:=IH hi;refine⟨ew (h.row.sub r y).q λm _ n=>far m (M m _ n (by decide)),?_⟩;have ZO:=(h.row.sub r y).az;show World.ownsRow _ _ _ _ r.2.2 r.1.f (cy (atD r.1 j Z9).m r.1.f);rw[C] at ZO ⊢;exact yF ZO P (by omega) rfl}
  ·rw[QZ (λt=>e t.c)] at hi;have ZP:=I5 hi;refine(h.row.sub s ZP).far (λm _ n=>far m (M m _ n (by decide))) λm g _=>far m λt=>?_;obtain⟨ZR,H⟩:=j5.1 hi;obtain⟨ZT,G⟩:=j5.1 ZQ;have ZZ:r.2.2.ownBlock=Q f:=by rw[C];rfl
   have ZL:=D0.1 S;rcases YO e with u|u;{have b:=ZL k i (by simpa using ZR) (by simpa using ZT) u;rw[TM,TM,H,G] at b;rcases b with b|b;{rw[g] at b;cases b};{exact b (by rw[g,ZZ,t])}};{have b:=ZL i k (by simpa using ZT) (by simpa using ZR) u;rw[TM,TM,H,G] at b;rcases b with b|b;{rw[ZZ] at b;cases b};{exact b (by rw[g,ZZ,t])}}
def Gg (b:D[i]?=Q r)(x:au):(D.set i (x,r.2)).map (·.2)=D.map (·.2):=by
 rw[List.map_set];refine UG λk=>?_;by_cases e:k=i;{subst e;rw[PE (by rw[PI];exact(j5.1 b).1),LR,b];rfl};{rw[QZ (λf=>e f.c)]}
def SpS.aside{c:Nat}{r:Array ZB}{Z9:Nat × Nat}(h:SpS K w R X W q (Q (T g 0 Z)) c D)(hb:A (B w)+2<=b)(hX:b≠X)(p:b≠g)(hF:W.heap[b]?=Q (N r 62 Z9))(v0 v1 v2 v3 v4 v5:ZB):SpS K w R X (z (z (z (z (z (z W (T b 0 Z) v0) (T b 1 Z) v1) (T b 2 Z) v2) (T b 3 Z) v3) (T b 4 Z) v4) (T b 5 Z) v5) q (Q (T g 0 Z)) c D:=by
 have hlo:=h.lo;have Z8:=tk W b (A (B w)+2) v0 v1 v2 v3 v4 v5 hb;have far:=λm=>rX W b m v0 v1 v2 v3 v4 v5;have j:∀m e,OfTy W m e->e≠62->m≠b:=λm e f n u=>by obtain⟨c0,z0,i⟩:=f;rw[u,hF] at i;simp at i;exact n i.2.1.c
 refine⟨h.rd.low Z8 (by omega),h.o.then (Z8.P (by omega)),(Z8.p _ (by omega)).k h.rs,(far X (λe=>hX e.c)).k h.bx,⟨ew h.row.u λm t _=>?_,λs l=>(h.row.sub s l).far (λm _ f=>far m (j m _ f (by decide))) (λm _ f=>far m (j m _ f (by decide)))⟩,h.aq,h.lo,h.hX,h.num⟩;obtain rfl:g=m:=by simpa[Value.ownBlock] using t
 exact far g λe=>p e.c
def mJ (nm tx:F_)(b:Int):DR:=({ fG with e:=nm,L:=b,H:=tx },Y Z 0 0,Y Z 0 0)
def wu{nm tx:F_}(f:Int)(h1:nm.size<=5000)(h2:tx.size<=2000+K):FitK K (mJ nm tx f).1:=⟨h1,h2,DW _,λj b=>absurd b (by simp[mJ,fG]),DW _,λj b=>absurd b (by simp[mJ,fG])⟩
def Gh (w:E)(base:Nat)(nm tx:F_)(b:Int):DSub w base (mJ nm tx b):=⟨CP _ _ _ _,CP _ _ _ _⟩
def Jd (h:D.Pairwise λa b=>Apt a.2.1 b.2.1/\Apt a.2.2 b.2.2)(nm tx:F_)(f:Int):((mJ nm tx f::D).map (·.2.2)).Pairwise Apt:=by rw[T7,PX];exact⟨λx _=>.inl rfl,List.pairwise_map.2 (h.imp λh=>h.2)⟩
def GL:Prop:=∀(m:Nat) (w:E),m<=61->Calls Tryz.prog 53 #[J I m] w λe b=>∃(a:O_) (n c:Nat) (f:Nat->au),e=ZI (ZJ #[Y a n c])/\HAc (A (B w)) b a n c f/\Below (A (B w)) w b/\n<=450/\∀i,i<n->FitK 0 (f i)
def SpS.other{W':E}{c c':Nat}{a':O_}{f:Nat->au}(h:SpS K w R X W q a c D)(l:Below (A (B W)) W W')(hH:HAc (A (B W)) W' a' b c' f)(hn:b<=450)(n:∀i,i<b->FitK 0 (f i))(j:q<=ZO):DAK K w R ZO (ZI (ZJ #[Y a' b c'])) (z W' (T (A (B w)+1) 0 Z) (Y a' b c')):=by
 have g:=h.aa l;have hl:=h.lo;have hx:=h.lt;have hX:=h.hX;have Z8:=(a8 (A (B w)) W').setCell (p:=(T (A (B w)+1) 0 Z)) (BV _) (Y a' b c');have m:Agr (A (B W)) W' (z W' (T (A (B w)+1) 0 Z) (Y a' b c')):=⟨by simp,λk h1 _=>qh _ _ _ _ (by show k≠A (B w)+1;omega)⟩
 exact⟨a',b,c',f,rfl,(hH.agr m).P (by omega),⟨q,j,g.rd.low Z8 h.lo,g.o.then Z8⟩,by omega,λi hi=>(n i hi).up (DW _)⟩
structure LSub (w:E)(base:Nat)(r:DR):Prop where
 q:r.1.h=0/\(∃c,r.2.1=Y Z 0 c)\/∃g c,r.2.1=Y (Q (T g 0 Z)) r.1.h c/\Q_ w g 0 r.1.h r.1.q/\Qz w g 102/\base<=g
 az:ZY w base 65 4 r.2.2 r.1.f (cy r.1.m r.1.f)
structure LRw (w:E)(base:Nat)(v:ZB)(R:List DR):Prop where
 u:ZY w base 62 6 v (ZU R) (R.flatMap ddV)
 sub:∀r∈R,LSub w base r
def LSub.ad (h:LSub w base r)(hz:A (B w)<=A (B w'))(hb:∀k,OfTy w k 102\/OfTy w k 65->base<=k->w'.heap[k]?=w.heap[k]?):LSub w' base r:=by
 refine⟨?_,ew h.az λk n j=>hb k (.inr j) (h.az.lt k n).1⟩;rcases h.q with h1|⟨g,c,e,h2,b,f⟩
 {exact .inl h1};{have i:w'.heap[g]?=w.heap[g]?:=hb g (.inl (by obtain⟨l,m⟩:=b;exact⟨l,_,m⟩)) f;exact .inr ⟨g,c,e,h2.p hz i,b.p i,f⟩}
def LRw.agr{V:E}{v:ZB}{R:List DR}(h:LRw w base v R)(b:Agr base w V):LRw V base v R:=
 ⟨fk h.u b,λr f=>(h.sub r f).ad b.1 λk g hb=>b.2 k hb (by rcases g with⟨c,Z9,e⟩|⟨c,Z9,e⟩<;>exact aj e)⟩
def LRw.bd{c:Nat}{R:List DR}(h:LRw w base (Y a (ZU R) c) R):SlDeed w a (ZU R) (dF (R.map (·.1))):=by
 by_cases hz:ZU R=0;{exact .inl hz}
 ·obtain⟨g,c',e⟩:=dr h.u (by omega);cases e
  refine .inr ⟨g,0,rfl,(cV h.u).2,λi hi=>?_⟩;obtain⟨r,b,f⟩:=dG hi;rw[iM b];have c:∀j,j<6->∀u,(ddV r)[j]?=Q u->ZW w (T g (0+i*6+j) Z)=Q u:=λj m u s=>by rw[show 0+i*6+j=i*6+j by omega];exact(iU h.u b j m s).1
  have o:DSub w base ({ r.1 with h:=0 },Y Z 0 0,r.2.2):=⟨CP _ _ _ _,(h.sub r f).az⟩
  obtain⟨n,c5,q,x⟩:=o.m;obtain⟨l,c4,t,p⟩:∃a j_,r.2.1=Y a r.1.h j_/\SlIns w a r.1.h r.1.q:=by
   rcases(h.sub r f).q with⟨h1,c,e⟩|⟨g,c,e,h2,-,-⟩
   {exact⟨Z,c,by rw[h1];exact e,.inl h1⟩};{exact⟨_,c,e,.inr ⟨g,0,rfl,h2⟩⟩}
  exact⟨c 0 (by omega) _ rfl,c 1 (by omega) _ rfl,c 2 (by omega) _ rfl,c 3 (by omega) _ rfl,⟨l,c4,by rw[<-t];exact c 4 (by omega) _ rfl,p⟩,⟨n,c5,by rw[<-show r.2.2=_ from q];exact c 5 (by omega) _ rfl,x⟩⟩
def Je{c:Nat}{R:List DR}(h:LRw w base (Y a n c) R)(e:n=ZU R)(b:∀r∈R,FitD r.1)(hn:ZU R<=50000):HAc base w a n c (dF (R.map (·.1))):=by subst e;refine⟨λV g=>(h.agr g).bd,jY h.u,hn,λi hi=>?_⟩;obtain⟨r,j,f⟩:=dG hi;rw[iM j];exact b r f
def TRow.ad{v:ZB}{R:List TR}(h:TRow w base v R)(hz:A (B w)<=A (B w'))(hb:∀k,Qz w k 86\/Qz w k 102->w'.heap[k]?=w.heap[k]?):TRow w' base v R:=by
 refine⟨?_,λr m=>?_,h.up⟩
 ·refine⟨h.u.1,?_⟩;rcases h.u.2 with h1|⟨g,j_,b,rfl,i,j,h2⟩
  {exact .inl h1};{exact .inr ⟨g,j_,b,rfl,i,(hb g (.inl ⟨b,j⟩)).k j,h2⟩}
 {obtain⟨h1,⟨F,h2⟩,f,l⟩:=h.q r m;have e:=hb r.2.1 (.inr f);exact⟨h1.p hz e,⟨F,h2.p hz e⟩,f.p e,l⟩}
structure LgS (w:E)(sb X:Nat)(W:E)(v0:ZB)(a1:O_)(c1:Nat)(RT:List TR)(a:O_)(c:Nat)(D:List DR):Prop where
 rs:W.heap[A (B w)]?=Q (N #[Y Z 0 0] 25 (0,0))
 sx:W.heap[sb]?=Q (N #[v0,Y a1 (ZU RT) c1] 29 (0,0))
 bx:W.heap[X]?=Q (N #[Y a (ZU D) c] 25 (0,0))
 tg:TRow W (A (B w)+1) (Y a1 (ZU RT) c1) RT
 row:LRw W (A (B w)+1) (Y a (ZU D) c) D
 aq:∀r∈D,FitK 0 r.1
 lo:A (B w)<X
 bl:Below (A (B w)) w W
section
variable {w W W':E}{sb X c1 c c' g:Nat}{v0:ZB}{a1:O_}{a':O_}{RT:List TR}{D:List DR}{r:DR}
def LgS.aa (h:LgS w sb X W v0 a1 c1 RT a c D)(hb:Below (A (B W)) W W'):LgS w sb X W' v0 a1 c1 RT a c D:=
 ⟨(hb.p _ (aj h.rs)).k h.rs,(hb.p _ (aj h.sx)).k h.sx,(hb.p _ (aj h.bx)).k h.bx,h.tg.aa hb ly,h.row.agr (de hb ly),h.aq,h.lo,h.bl.k (hb.P h.bl.size)⟩
def LgS.more (h:LgS w sb X W v0 a1 c1 RT (Q (T g 0 Z)) c D)(hz:A (B W)<=A (B W'))(keep:∀k,k<A (B W)->k≠g->k≠X->W'.heap[k]?=W.heap[k]?)(p:W'.heap[X]?=Q (N #[Y a' (ZU D+1) c'] 25 (0,0)))
  (m:ZY W' (A (B w)+1) 62 6 (Y a' (ZU D+1) c') (ZU D+1) (D.flatMap ddV++ddV r)) (t:LSub W' (A (B w)+1) r) (s:FitK 0 r.1) (hb:Below (A (B w)) w W'):LgS w sb X W' v0 a1 c1 RT a' c' (D++[r]):=by
 have hlo:=h.lo;obtain⟨cs,Z9,q⟩:=fS h.row.u g rfl;have hgb:=(h.row.u.lt g rfl).1;have j:∀(k:Nat) (i:Array ZB) (e:TypeId) (l:Nat × Nat),W.heap[k]?=Q (Obj.cells i e l)->e≠62->e≠25->W'.heap[k]?=W.heap[k]?:=λk i e l b h1 h2=>by
  refine keep k (aj b) (λn=>?_) λn=>?_;{rw[n,q] at b;simp at b;exact h1 b.2.1.c};{rw[n,h.bx] at b;simp at b;exact h2 b.2.1.c}
 have o:(D++[r]).length=ZU D+1:=by simp
 refine⟨(keep _ (aj h.rs) (by omega) (by omega)).k h.rs,(j _ _ _ _ h.sx (by decide) (by decide)).k h.sx,by rw[o];exact p,h.tg.ad hz λk b=>?_,⟨?_,λx f=>?_⟩,λx f=>?_,h.lo,hb⟩
 ·rcases b with⟨i,b⟩|⟨i,b⟩
  {exact j _ _ _ _ b (by decide) (by decide)};{exact j _ _ _ _ b (by decide) (by decide)}
 {rw[o,J1];simpa using m}
 ·rcases p8.1 f with f|f
  ·refine(h.row.sub x f).ad hz λk b _=>?_;rcases b with⟨i,l,b⟩|⟨i,l,b⟩
   {exact j _ _ _ _ b (by decide) (by decide)};{exact j _ _ _ _ b (by decide) (by decide)}
  {rw[j4.1 f];exact t}
 {rcases p8.1 f with f|f;{exact h.aq x f};{rw[j4.1 f];exact s}}
end
def Aw (f b:F_)(an:Nat)(act:Nat->Ins)(Z9:Int):au:=⟨f,3,0,⟨#[103,114,111,117,110,100]⟩,an,act,1,λ_=>⟨b,ZH,ZA,Z9⟩⟩
def Dm (w:E)(base:Nat)(hb:base<=A (B w))(f b:F_)(an:Nat)(act:Nat->Ins)(Z9:Int):(ZV w (N #[U b,ZF ZH,ZF ZA,J I Z9] 65)).ownsRow base 65 4 (Y (Q (T (A (B w)) 0 Z)) 1 1) 1 (cy (Aw f b an act Z9).m 1):=
 ⟨rfl,.inr ⟨A (B w),1,_,rfl,hb,gM w _,p7 _,by unfold maxLen;omega,rfl,rfl⟩⟩
def Gi{f b:F_}{an:Nat}{act:Nat->Ins}{Z9:Int}(h1:f.size<=5000)(h2:b.size<=5000)(g:an<=200)(h:∀j,j<an->(act j).s.size<=5000):FitK 0 (Aw f b an act Z9):=
 ⟨h1,by show(⟨#[103,114,111,117,110,100]⟩:F_).size<=2000;decide,g,h,by show 1<=200;omega,λ_ _=>h2⟩
def qT:GL:=by
 intro n w hn;obtain⟨JO,hi,GS,Fd,JK⟩:=NO gC;obtain⟨W0,ZO⟩:∃W:E,ZV w (N #[Y Z 0 0] 25)=W:=⟨_,rfl⟩
 obtain⟨A0,K0,hz0⟩:=nb1 ZO;have bt:=ae ZO;clear ZO;have hw1:IntKind.i64.wrap ((n:Int) - 1)=(n:Int) - 1:=by rw[nL];omega
 go_enter func53,ntmps53;go_wp2_with fail;rw[bt.i];clear bt;refine(kO n (by omega) ⟨#[97]⟩ (by decide) W0).P ?_;rintro e ZR⟨b0,n0,c0,f0,a1,c1,RT,rfl,mv,-,-,hT,hG,hN,hB⟩;have HG:=ae hG;have JR:=ae (λr x=>(hN r x).1);have Fk:=ae (λr x=>(hN r x).2);have Hx:=ae mv;have hs1:=hB.size;obtain⟨W1,hW⟩:∃W:E,ZV (ZV (ZV ZR (N #[Y b0 n0 c0,Y a1 (ZU RT) c1] 29)) (N #[U ⟨#[97]⟩,J I 1,J I 0,U ⟨#[103,114,111,117,110,100]⟩,Y Z 0 0,Y Z 0 0] 62)) (N #[Y (Q (T (A (B ZR)+1) 0 Z)) 1 1] 25)=W:=⟨_,rfl⟩
 obtain⟨AC,kS,kD,kX,-⟩:=nb3 hW;have HW:=ae hW;clear hW;have S1:Hid (LgS w (A (B ZR)) (A (B ZR)+2) W1 (Y b0 n0 c0) a1 c1 RT (Q (T (A (B ZR)+1) 0 Z)) 1 [mJ ⟨#[97]⟩ ⟨#[103,114,111,117,110,100]⟩ 1]):=by
  refine⟨(AC.p (A (B w)) (by omega)).k ((hB.p (A (B w)) (by omega)).k K0),kS,kX,(hT.P (by omega)).aa AC ly,⟨⟨rfl,.inr ⟨A (B ZR)+1,1,_,rfl,by omega,kD.i,p7 _,by unfold maxLen;omega,rfl,rfl⟩⟩,λr x=>?_⟩,λr x=>?_,by omega,(A0.k (hB.P (by omega))).k (AC.P (by omega))⟩;{rw[j4.1 x];exact⟨.inl ⟨rfl,0,rfl⟩,CP _ _ _ _⟩};{rw[j4.1 x];exact wu 1 (by decide) (by decide)}
 clear AC kS kD kX hT hG hN hB A0 K0 mv;go_wp2_with fail;rw[HW.i];clear HW;generalize (A (B ZR))+2=X at S1 ⊢;generalize (A (B ZR))=sb at S1 ⊢;go_loopw [5] (λi wr=>∃(m:Nat) (Z9:Int) (a:O_) (c:Nat) (D:List DR),i=J I Z9/\Z9=(m:Int) - 1/\m<=n/\(ZU D)+m=n+1/\Hid (LgS w sb X wr (Y b0 n0 c0) a1 c1 RT a c D)) (λi _=>(intOf i+1).toNat);case atStart=>exact⟨n,_,_,_,_,rfl,rfl,p7 _,by simp;omega,S1⟩
 case round =>
  clear S1;obtain⟨m,Z9,a,c,D,rfl,hz,ZN,hD,b⟩:=hrel;have HD:=ae hD;clear hD;by_cases h0:m=0
  ·subst h0;obtain rfl:Z9=-1:=by omega
   have JM:ZU D<=50000:=by have:=HD.i;omega
   have HE:=ae ((Je (b.row.agr (fl (j:=0) (eL (A (B w))) (Y a (ZU D) c))) rfl (λr x=>(b.aq r x).d (by omega)) JM).P (BV (A (B w))));have JN:ZU D<=450:=by have:=HD.i;omega
   have FE:=ae (λ(i:Nat) (hi:i<ZU D)=>show FitK 0 (dF (D.map (·.1)) i) by
    obtain⟨r,x,ZN⟩:=dG hi;rw[iM x]
    exact b.aq r ZN)
   have BE:=ae (b.bl.setCell (p:=(T (A (B w)) 0 Z)) ly (Y a (ZU D) c));have kr:=b.rs;have y:=b.bx;have r0:ZW wr (T (A (B w)) 0 Z)=Q (Y Z 0 0):=by simp[World.cell?,kr]
   have q0:ZX wr (T (A (B w)) 0 Z)=ZA:=by simp[World.frozen?,kr]
   have x0:ZW wr (T X 0 Z)=Q (Y a (ZU D) c):=by simp[World.cell?,y]
   have l0:=aj kr;have l1:=aj y;clear kr y hz;go_wp2;exact bp (v:=ZJ #[Y a (ZU D) c]) (by simp[results,results53,go_sem,r0]) rfl ⟨_,_,_,_,rfl,HE,BE,JN,FE⟩
  ·obtain⟨k,rfl⟩:∃k,m=k+1:=⟨m - 1,by omega⟩
   obtain rfl:Z9=(k:Int):=by omega
   clear hz h0;have Id:k<ZU RT:=by have:=Hx.i;omega
   have JQ:0<ZU D:=by have:=HD.i;omega
   have hDn:ZU D<=100:=by have:=HD.i;omega
   obtain⟨g,c',e⟩:=dr b.row.u JQ;obtain⟨rfl,-,-⟩:=T6 e;clear e c';obtain⟨L,hL⟩:∃L,ZU D=L+1:=⟨ZU D - 1,by omega⟩
   obtain⟨rl,ZZ,sm⟩:=dG (R:=D) (i:=L) (by omega);have e0:=(iU b.row.u ZZ 0 (by omega) (u:=U rl.1.e) rfl).1;rw[QE] at e0;have ur:=(b.aq rl sm).nm;have hwL:IntKind.i64.wrap ((ZU D:Int) - 1)=(L:Int):=by rw[nL];omega
   have hLl:(L:Int)<(ZU D:Int):=by omega
   obtain⟨l,r,ex,H,M,t0,t1,-⟩:=b.tg.atk Id;obtain⟨th,-,fd,JH⟩:=b.tg.q r M;have ph:=ae th;have At:=ae fd;obtain⟨-,ro⟩:=HG.i r M;have JL:r.1.h<=200:=by have:=Fk.i r M;omega
   have JG:=ae ro;have JS:=JR.i r M;have y:=b.bx;have ZM:=b.sx;rw[ex] at ZM;have x0:ZW wr (T X 0 Z)=Q (Y (Q (T g 0 Z)) (ZU D) c):=by simp[World.cell?,y]
   have y0:ZX wr (T X 0 Z)=ZA:=by simp[World.frozen?,y]
   have x1:ZW wr (T sb 1 Z)=Q (Y (Q (T l 0 Z)) (ZU RT) c1):=by simp[World.cell?,ZM]
   have l0:=aj y;have l1:=aj ZM;obtain⟨cg,zg,kg⟩:=fS b.row.u g rfl;have lg:=aj kg;have Bk:X≠g:=λe=>by rw[e,kg] at y;simp at y
   have DQ:sb≠g:=λe=>by rw[e,kg] at ZM;simp at ZM
   have n8:l≠g:=λe=>by obtain⟨cur,hc⟩:=b.tg.type l (by rw[ex];rfl);rw[e,kg] at hc;simp at hc
   have hgb:=(b.row.u.lt g rfl).1;have hlo:=b.lo;have qr:=b.bl.size;clear y ZM th fd ro ZZ sm M ex kg;have SQ:Hid (∀V:E,(∀j,j<A (B wr)->j≠g->V.heap[j]?=wr.heap[j]?)->ZW V (T X 0 Z)=Q (Y (Q (T g 0 Z)) (ZU D) c)/\ZW V (T sb 1 Z)=Q (Y (Q (T l 0 Z)) (ZU RT) c1)/\ZW V (T l (k*2) Z)=Q (U r.1.e)/\ZW V (T l (k*2+1) Z)=Q (Y (Q (T r.2.1 0 Z)) r.1.h r.2.2)):=λV hV=>⟨(cq (a:=(T X 0 Z)) (hV X l0 Bk)).k x0,(cq (a:=(T sb 1 Z)) (hV sb l1 DQ)).k x1,(cq (a:=(T l (k*2) Z)) (hV l H n8)).k t0,(cq (a:=(T l (k*2+1) Z)) (hV l H n8)).k t1⟩
   have HL:=ae hL;clear hL;generalize rl.1.e=S at e0 ur;go_upto_region 7 with fail;have hk2:(k:Int)<(ZU RT:Int):=by omega
   go_wp2_with fail;refine aI (λV=>ZW V (T X 0 Z)=Q (Y (Q (T g 0 Z)) (ZU D) c)/\ZW V (T sb 1 Z)=Q (Y (Q (T l 0 Z)) (ZU RT) c1)/\ZW V (T l (k*2) Z)=Q (U r.1.e)/\ZW V (T l (k*2+1) Z)=Q (Y (Q (T r.2.1 0 Z)) r.1.h r.2.2)) 25 (by kernel_rfl) ?_;have ZT:=ae (b.aa br.drew);have Z8:Hid (∀V:E,(∀j,j<wr.drew.heap.size->j≠g->V.heap[j]?=wr.drew.heap[j]?)->ZW V (T X 0 Z)=Q (Y (Q (T g 0 Z)) (ZU D) c)/\ZW V (T sb 1 Z)=Q (Y (Q (T l 0 Z)) (ZU RT) c1)/\ZW V (T l (k*2) Z)=Q (U r.1.e)/\ZW V (T l (k*2+1) Z)=Q (Y (Q (T r.2.1 0 Z)) r.1.h r.2.2)):=SQ;have ZP:Hid (Q_ wr.drew r.2.1 0 r.1.h r.1.q):=ph.aa br.drew ly;have ZS:Hid (Qz wr.drew r.2.1 102):=At;have l2:X<wr.drew.heap.size:=l0;have n9:A (B w)<=wr.drew.heap.size:=qr;clear b SQ ph At l0 l1 lg H x0 x1 y0 t0 t1 e0 qr;generalize wr.drew=v at ZT Z8 ZP ZS l2 n9 ⊢;have o:=ae (Z8 v (λj _ _=>rfl));iterate 20
    refine aO 0 (v:=?_) rfl rfl (by kernel_rfl) (λ_ _ _ h=>h) rfl ?_ o ?_;rotate_left
    ·(rintro wz⟨s0,s1,s2,s3⟩;go_simp)
     (try with_reducible rfl)
    (try simp only[p_,z_])
   have BA:=ae ((BS v).alloc ly (N #[U S,ZF ZH,ZF ZA,J I L] 65));have hx1:=ZT.lo;have DE:A (B (ZV v (N #[U S,ZF ZH,ZF ZA,J I L] 65)))=A (B v)+1:=by simp
   have OL:=ae (Dm v (A (B w)+1) (by omega) r.1.e S r.1.h r.1.q (L:Int));refine ai (i:=20) rfl (by kernel_rfl) λK f=>?_;go_simp;clear o;have o:=ae (Z8 _ (λj G _=>BA.p j G));refine f _ _ (λ_=>o) ?_;clear f K
   (try simp only[p_,z_])
   refine ai (i:=21) rfl (by kernel_rfl) λK f=>?_;go_simp;refine f _ _ (λ_=>o) ?_;clear f K
   (try simp only[p_,z_])
   have Fm:=BA.size;have ZQ:=ae (BA.alloc Fm (N #[U r.1.e,J I 3,J I 0,U ⟨#[103,114,111,117,110,100]⟩,Y (Q (T r.2.1 0 Z)) r.1.h r.2.2,Y (Q (T (A (B v)) 0 Z)) 1 1] 62));refine ai (i:=22) rfl (by kernel_rfl) λK f=>?_;go_simp;clear o;have o:=ae (Z8 _ (λj G _=>ZQ.p j G));refine f _ _ (λ_=>o) ?_;clear f K
   (try simp only[p_,z_])
   have OW:=ae (J_ ZT.row.u ZQ ly);obtain⟨WC,O⟩:∃W:E,ZV (ZV v (N #[U S,ZF ZH,ZF ZA,J I L] 65)) (N #[U r.1.e,J I 3,J I 0,U ⟨#[103,114,111,117,110,100]⟩,Y (Q (T r.2.1 0 Z)) r.1.h r.2.2,Y (Q (T (A (B v)) 0 Z)) 1 1] 62)=W:=⟨_,rfl⟩
   obtain⟨-,-,-,hzC⟩:=nb2 O;have P:=ae O;clear O;have NC:Hid (∀j u,[Value.string r.1.e,J I 3,J I 0,U ⟨#[103,114,111,117,110,100]⟩,Y (Q (T r.2.1 0 Z)) r.1.h r.2.2,Y (Q (T (A (B v)) 0 Z)) 1 1][j]?=Q u->WC.cell? (((T (A (B v)+1) 0 Z):Addr).add j)=Q u):=by rw[<-P.i];have h:=eQ (ZV v (N #[U S,ZF ZH,ZF ZA,J I L] 65)) #[U r.1.e,J I 3,J I 0,U ⟨#[103,114,111,117,110,100]⟩,Y (Q (T r.2.1 0 Z)) r.1.h r.2.2,Y (Q (T (A (B v)) 0 Z)) 1 1] 62;rw[DE] at h;exact h
   have OK:=ae (J_ OL ((a8 _ (ZV v (N #[U S,ZF ZH,ZF ZA,J I L] 65))).alloc ly (N #[U r.1.e,J I 3,J I 0,U ⟨#[103,114,111,117,110,100]⟩,Y (Q (T r.2.1 0 Z)) r.1.h r.2.2,Y (Q (T (A (B v)) 0 Z)) 1 1] 62)) ly);clear OL;rw[P.i] at ZQ OW OK o ⊢;clear P;refine ai (i:=23) rfl (by kernel_rfl) λK f=>?_;refine aU rfl (.tmp 28) (.tmp 49) 23 rfl (A (B w)+1) 62 JO (ZJ #[U ⟨#[]⟩,J I 0,J I 0,U ⟨#[]⟩,Y Z 0 0,Y Z 0 0]) 6 96 QB hi GS Fd JK rfl (by decide) (Y (Q (T g 0 Z)) (ZU D) c) (ZU D) (D.flatMap ddV) (by simp[Act.eval]) OW.i (T (A (B v)+1) 0 Z) 1 1 [U r.1.e,J I 3,J I 0,U ⟨#[103,114,111,117,110,100]⟩,Y (Q (T r.2.1 0 Z)) r.1.h r.2.2,Y (Q (T (A (B v)) 0 Z)) 1 1] (by simp[Act.eval]) rfl NC.i (by simp[Value.oneCell']) (by unfold maxLen;omega) (by omega) (by omega) ?_;intro v' t C q JP;obtain⟨ZL,c',rfl⟩:=dr C (by omega);have KG:Hid (∀j,j<A (B WC)->j≠g->t.heap[j]?=WC.heap[j]?):=λj G aq=>q.p j G (λe=>aq (IH (show Q j=Q g from e)));have hz6:=q.size;clear o;have o:=ae (Z8 t (λj G aq=>(KG j (by omega) aq).k (ZQ.p j G)));refine f _ _ (λ_=>o) ?_;clear f K
   (try simp only[p_,z_])
   refine ai (i:=24) rfl (by kernel_rfl) λK f=>?_;go_simp;refine f _ _ (λ_=>o) ?_;clear f K
   (try simp only[p_,z_])
   have HO:=ae C;have k6:t.heap[X]?=v.heap[X]?:=(KG X (by omega) Bk).k (ZQ.p X l2);have s:=k6.k ZT.bx;have z0:ZW t (T X 0 Z)=Q (Y (Q (T g 0 Z)) (ZU D) c):=by simp[World.cell?,s]
   have z1:ZX t (T X 0 Z)=ZA:=by simp[World.frozen?,s]
   have z2:=aj s;have JJ:X≠ZL:=λe=>by obtain⟨cc,zz,hc⟩:=fS C ZL rfl;rw[e,hc] at s;simp at s
   clear C;refine ai (i:=25) rfl (by kernel_rfl) λK f=>?_;go_simp;refine f _ _ (λh=>absurd rfl h) ?_;clear f K o
   (try simp only[p_,z_])
   refine ba (by kernel_rfl) ?_ _;have keep:∀j,j<A (B v)->j≠g->j≠X->(z t (T X 0 Z) (Y (Q (T ZL 0 Z)) (ZU D+1) c')).heap[j]?=v.heap[j]?:=λj G h1 h2=>(qh t (T X 0 Z) _ j h2).k ((KG j (by omega) h1).k (ZQ.p j G));have la:r.2.1≠g:=λe=>by obtain⟨c5,z5,h5⟩:=fS ZT.row.u g rfl;obtain⟨c6,h6⟩:=ZS.i;rw[e,h5] at h6;simp at h6
   have ld:r.2.1≠X:=λe=>by obtain⟨c6,h6⟩:=ZS.i;rw[e,ZT.bx] at h6;simp at h6
   have ZZ:=ZP.1;have H:=(ZT.row.u.lt g rfl).2
   have S9:=ae (ZT.more (r:=(Aw r.1.e S r.1.h r.1.q (L:Int),Y (Q (T r.2.1 0 Z)) r.1.h r.2.2,Y (Q (T (A (B v)) 0 Z)) 1 1)) (a':=Q (T ZL 0 Z)) (c':=c') (W':=z t (T X 0 Z) (Y (Q (T ZL 0 Z)) (ZU D+1) c')) (by simp;omega) keep (cH s _)
    (ew HO λm ZN _=>qh t (T X 0 Z) _ m (λe=>JJ (e.c.k (IH (show Q m=Q ZL from ZN.c ▸ rfl)))))
    ⟨.inr ⟨r.2.1,r.2.2,rfl,ZP.p (by simp;omega) (keep _ ZZ la ld),ZS.p (keep _ ZZ la ld),JH⟩,ew OK λm ZN _=>by
     obtain rfl:A (B v)=m:=IH ZN
     exact(qh t (T X 0 Z) _ _ (by show (A (B v))≠X;omega)).k (KG _ (by omega) (by omega))⟩
    (Gi JS ur JL JG)
    (((ZT.bl.k (ZQ.P n9)).k (bg (a8 (A (B w)) WC) q (by omega) (λk' e=>by have e2:=IH (show Q g=Q k' from e);omega))).setCell (p:=(T X 0 Z)) (by show (A (B w))<=X;omega) _))
   clear keep la ld ZZ H q JP HO OK OW NC KG BA ZQ Z8 ZP ZS s k6 z0 z1 z2;generalize World.setCell t _ _=W9 at S9 ⊢;have hwk:IntKind.i64.wrap ((k:Int) - 1)=(k:Int) - 1:=by rw[nL];omega
   go_wp2;refine⟨⟨k,(k:Int) - 1,_,_,_,by go_num,rfl,by omega,?_,S9⟩,by simp[intOf]⟩;have:=HD.i;rw[cM,AI];omega
