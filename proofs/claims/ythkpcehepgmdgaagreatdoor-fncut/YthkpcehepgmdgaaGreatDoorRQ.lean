import Derived.Test.YthkpcehepgmdgaaGreatDoorRP
import Derived.Deep.AppendLies
set_option linter.unusedSimpArgs false
open Go renaming Addr.mk->Q,Value.slice->Z,Value.string->U,Value.int->J,Value.agg->ZH,Obj.cells->N,IntKind.i64->I,World->G,Value->ZD,Ending.returned->ZG,World.ownsRow->ZT,World.setCell->A
open Option renaming none->Y,some->T
namespace Go.Proofs.YthkpcehepgmdgaaGreatDoor.Vp
open RowKit Ca
variable {w W w0:G}{g base n j R b q X ZN i:Nat}{D:List DR}{f:Nat->Link}{u v0 v1 v2 v3 v4:ZD}{y:Link}{a:Option Addr}{r:DR}
def LBx (W:G)(b:Nat)(v0 v1 v2 v3 v4 v5:ZD):Prop:=W.heap[b]?=T (N #[v0,v1,v2,v3,v4,v5] 44 (0,0))
section
variable {W W':G}{b:Nat}{v0 v1 v2 v3 v4 v5:ZD}
theorem LBx.lt (h:LBx W b v0 v1 v2 v3 v4 v5):b<W.heap.size:=ag h
theorem LBx.cells (h:LBx W b v0 v1 v2 v3 v4 v5):W.cell? (Q b 0 Y)=T v0/\W.cell? (Q b 1 Y)=T v1/\W.cell? (Q b 2 Y)=T v2/\W.cell? (Q b 3 Y)=T v3/\W.cell? (Q b 4 Y)=T v4/\W.cell? (Q b 5 Y)=T v5:=by have f:W.heap[b]?=T (N #[v0,v1,v2,v3,v4,v5] 44 (0,0)):=h;refine⟨?_,?_,?_,?_,?_,?_⟩<;>simp[World.cell?,f]
theorem LBx.fz (h:LBx W b v0 v1 v2 v3 v4 v5)(j:Nat):W.frozen? (Q b j Y)=false:=by have f:W.heap[b]?=T (N #[v0,v1,v2,v3,v4,v5] 44 (0,0)):=h;simp[World.frozen?,f]
theorem LBx.ab (h:LBx W b v0 v1 v2 v3 v4 v5)(e:W'.heap[b]?=W.heap[b]?):LBx W' b v0 v1 v2 v3 v4 v5:=e.trans h
theorem LBx.set5 (h:LBx W b v0 v1 v2 v3 v4 v5)(u:ZD):LBx (A W (Q b 5 Y) u) b v0 v1 v2 v3 v4 u:=by have f:W.heap[b]?=T (N #[v0,v1,v2,v3,v4,v5] 44 (0,0)):=h;show(A W (Q b 5 Y) u).heap[b]?=_;simp[World.setCell,KZ,f]
end
theorem AG{b:Type}(f:Nat->b)(n k:Nat)(y:b):((List.range n).map f).set k y=(List.range n).map (λi=>if i=k then y else f i):=by
 refine OD λi=>?_;rw[List.getElem?_set,HU,HU];by_cases hi:i<n;{by_cases e:k=i;{subst e;simp[hi]};{have g:¬ i=k:=λh=>e h.symm;simp[hi,e,g]}};{by_cases e:k=i;{subst e;simp[hi]};{simp[hi,e]}}
theorem wZ{c k:Nat}(h:ZT w base 68 4 (Z (T (Q g 0 Y)) n c) n (bq f n))(l:k<n)(o:j<4)(m:dt y=(dt (f k)).set j u):(A w (Q g (k*4+j) Y) u).ownsRow base 68 4 (Z (T (Q g 0 Y)) n c) n (bq (λi=>if i=k then y else f i) n):=by have b:=gG (j:=k*4+j) h u;have e:=jO dt 4 (λ_=>rfl) o m ((List.range n).map f) k (by simp[l]);rw[AG] at e;unfold bq at b ⊢;rw[e] at b;exact b
theorem cS{c k:Nat}(h:ZT w base 68 4 (Z (T (Q g 0 Y)) n c) n (bq f n))(b:k<n)(i:j<4)(l:(dt (f k))[j]?=T u):w.cell? (Q g (k*4+j) Y)=T u/\w.frozen? (Q g (k*4+j) Y)=false :=
 a8 h (j:=k*4+j) (by rw[fe f b j i];exact l)
theorem Fv{size c:Nat}{e:TypeId}{f:List ZD}(h:ZT w base e size (Z (T (Q g 0 Y)) n c) n f):base<=g/\∃j,w.heap[g]?=T (N j e (0,0)):=by
 rcases h.2 with ⟨b,_⟩|⟨g',cap,cur,b,hb,i,_⟩
 {cases b}
 ·cases b
  exact⟨hb,_,i⟩
structure LStD (w0 w:G)(R base g0:Nat)(v0 v1 v2 v3 v4:ZD)(W:G)(q g n c:Nat)(f:Nat->Link):Prop where
 bx:LBx W w.heap.size v0 v1 v2 v3 v4 (Z (T (Q g 0 Y)) n c)
 rs:LBx W (w.heap.size+1) (U ⟨#[]⟩) (J I 0) (J I 0) (U ⟨#[]⟩) (Z Y 0 0) (Z Y 0 0)
 rd:Rd W R q
 y:ZT W base 68 4 (Z (T (Q g 0 Y)) n c) n (bq f n)
 on:Only R w0 W
 same:∀k,k<w.heap.size->k≠R->k≠g0->W.heap[k]?=w.heap[k]?
 gg:g=g0∨w.heap.size<=g
 nm:∀j,j<n->(f j).e.size<=5000
 hR:R<w0.heap.size
 hb:w0.heap.size<=base
 hbw:base<=w.heap.size
section
variable {w0 w W W':G}{R base g0 q q' g n c:Nat}{v0 v1 v2 v3 v4:ZD}{f:Nat->Link}
theorem LStD.lt (h:LStD w0 w R base g0 v0 v1 v2 v3 v4 W q g n c f):w.heap.size+2<=W.heap.size:=h.rs.lt
theorem LStD.ac (h:LStD w0 w R base g0 v0 v1 v2 v3 v4 W q g n c f)(b:Only R W W')(o:Rd W' R q'):LStD w0 w R base g0 v0 v1 v2 v3 v4 W' q' g n c f:=by have h1:=h.hR;have h2:=h.hb;have m:=h.hbw;have h4:=h.lt;exact⟨h.bx.ab (b.block _ h.bx.lt (by omega)),h.rs.ab (b.block _ h.rs.lt (by omega)),o,fV h.y b (by omega),h.on.trans b,λk l i j=>(b.block k (by omega) i).trans (h.same k l i j),h.gg,h.nm,h1,h2,m⟩
theorem LStD.aa (h:LStD w0 w R base g0 v0 v1 v2 v3 v4 W q g n c f)(b:Below W.heap.size W W'):LStD w0 w R base g0 v0 v1 v2 v3 v4 W' q g n c f:=h.ac (Only.q b) (h.rd.aa b ly)
theorem LStD.gne (h:LStD w0 w R base g0 v0 v1 v2 v3 v4 W q g n c f):g≠w.heap.size/\g≠w.heap.size+1/\base<=g/\g<W.heap.size:=by
 obtain⟨hb,cs,b⟩:=Fv h.y;refine⟨λe=>?_,λe=>?_,hb,ag b⟩;{have:=h.bx;unfold LBx at this;rw[<-e,b] at this;cases this};{have:=h.rs;unfold LBx at this;rw[<-e,b] at this;cases this}
theorem LStD.setL{k:Nat}(h:LStD w0 w R base g0 v0 v1 v2 v3 v4 W q g n c f)(s:k<n)(B:j<4)(z:dt y=(dt (f k)).set j u)(ZU:y.e.size<=5000):LStD w0 w R base g0 v0 v1 v2 v3 v4 (A W (Q g (k*4+j) Y) u) q g n c (λi=>if i=k then y else f i):=by
 obtain⟨x,C,t,e4⟩:=h.gne;have h1:=h.hR;have h2:=h.hb;have o:Below base W (A W (Q g (k*4+j) Y) u):=br.setCell (p:=(Q g (k*4+j) Y)) t u;have far:∀m,m≠g->(A W (Q g (k*4+j) Y) u).heap[m]?=W.heap[m]?:=λm l=>qh W (Q g (k*4+j) Y) u m (by simpa using l);refine⟨h.bx.ab (far _ (λe=>x e.symm)),h.rs.ab (far _ (λe=>C e.symm)),h.rd.low o (by omega),wZ h.y s B z,h.on.then (o.mono h2),λm l r b=>(far m ?_).trans (h.same m l r b),h.gg,λi hi=>?_,h1,h2,h.hbw⟩;{rcases h.gg with e|e;{rw[e];exact b};{omega}};{show(if i=k then y else f i).e.size<=5000;split;{exact ZU};{exact h.nm i hi}}
theorem LStD.setB{n1 c1:Nat}{f1:Nat->Link}(h:LStD w0 w R base g0 v0 v1 v2 v3 v4 W q g n c f)(i:W.grownBy W' (T g))(z:ZT W' base 68 4 (Z (T (Q b 0 Y)) n1 c1) n1 (bq f1 n1))(D:b=g∨w.heap.size<=b)(hn:∀j,j<n1->(f1 j).e.size<=5000):LStD w0 w R base g0 v0 v1 v2 v3 v4 (A W' (Q w.heap.size 5 Y) (Z (T (Q b 0 Y)) n1 c1)) q b n1 c1 f1:=by
 obtain⟨B,E,ZU,e4⟩:=h.gne;have h1:=h.hR;have h2:=h.hb;have s:=h.hbw;have h4:=h.lt;have hw0:=h.on.size;have y:Below base W W':=bg br i (by omega) (λj e=>by cases e;exact ZU);have u:Below base W (A W' (Q w.heap.size 5 Y) (Z (T (Q b 0 Y)) n1 c1)):=y.setCell (p:=(Q w.heap.size 5 Y)) s _;have o:LBx W' w.heap.size v0 v1 v2 v3 v4 (Z (T (Q g 0 Y)) n c):=h.bx.ab (i.block _ h.bx.lt (by simpa using λe=>B e.symm));have x:=h.rs.ab (i.block _ h.rs.lt (by simpa using λe=>E e.symm));have far:∀m,m≠w.heap.size->(A W' (Q w.heap.size 5 Y) (Z (T (Q b 0 Y)) n1 c1)).heap[m]?=W'.heap[m]?:=λm r=>qh W' (Q w.heap.size 5 Y) _ m (by simpa using r);refine⟨o.set5 _,x.ab (far _ (by omega)),h.rd.low u (by omega),dM z o (by decide) _,h.on.then (u.mono h2),λm r t l=>?_,?_,hn,h1,h2,s⟩
 ·refine(far m (by omega)).trans ((i.block m (by omega) ?_).trans (h.same m r t l));rcases h.gg with e|e;{simpa[e] using l}
  ·intro C;have:m=g:=by simpa using C
   omega
 {rcases D with e|e;{rw[e];exact h.gg};{exact .inr e}}
end
theorem pQ (W:G)(r:Option Nat):W.grownBy W r:=⟨rfl,rfl,rfl,j6 _,λ_ _ _=>rfl⟩
theorem Fw{p c:Nat}(o:Only R w0 w)(hR:R<w0.heap.size)(hb:w0.heap.size<=base)(hbw:base<=w.heap.size)(q:Rd w R p)(l:ZT w base 68 4 (Z (T (Q g 0 Y)) n c) n (bq f n))(i:∀j,j<n->(f j).e.size<=5000):LStD w0 w R base g v0 v1 v2 v3 v4 ((w.alloc (N #[v0,v1,v2,v3,v4,Z (T (Q g 0 Y)) n c] 44)).alloc (N #[U ⟨#[]⟩,J I 0,J I 0,U ⟨#[]⟩,Z Y 0 0,Z Y 0 0] 44)) p g n c f:=by
 have b:=(q9 w).alloc ly (N #[v0,v1,v2,v3,v4,Z (T (Q g 0 Y)) n c] 44);have hz:(w.alloc (N #[v0,v1,v2,v3,v4,Z (T (Q g 0 Y)) n c] 44)).heap.size=w.heap.size+1:=by simp
 have h:=(cM (w.alloc (N #[v0,v1,v2,v3,v4,Z (T (Q g 0 Y)) n c] 44)).heap.size (w.alloc (N #[v0,v1,v2,v3,v4,Z (T (Q g 0 Y)) n c] 44))).alloc ly (N #[U ⟨#[]⟩,J I 0,J I 0,U ⟨#[]⟩,Z Y 0 0,Z Y 0 0] 44);have ZU:=b.trans (h.mono b.size);have h2:=nD (w.alloc (N #[v0,v1,v2,v3,v4,Z (T (Q g 0 Y)) n c] 44)) (N #[U ⟨#[]⟩,J I 0,J I 0,U ⟨#[]⟩,Z Y 0 0,Z Y 0 0] 44);rw[hz] at h2;exact⟨(h.block w.heap.size (by rw[hz];omega)).trans (nD w _),h2,q.aa ZU ly,own_below l ZU ly,o.trans (Only.q ZU),λk m _ _=>ZU.block k m,.inl rfl,i,hR,hb,hbw⟩
theorem LBx.six{u0 u1 u2 u3 u4 u5:ZD}(h:LBx W b u0 u1 u2 u3 u4 u5)(v0 v1 v2 v3 v4 v5:ZD):LBx (A (A (A (A (A (A W (Q b 0 Y) v0) (Q b 1 Y) v1) (Q b 2 Y) v2) (Q b 3 Y) v3) (Q b 4 Y) v4) (Q b 5 Y) v5) b v0 v1 v2 v3 v4 v5:=by have f:W.heap[b]?=T (N #[u0,u1,u2,u3,u4,u5] 44 (0,0)):=h;show(A (A (A (A (A (A W (Q b 0 Y) v0) (Q b 1 Y) v1) (Q b 2 Y) v2) (Q b 3 Y) v3) (Q b 4 Y) v4) (Q b 5 Y) v5).heap[b]?=_;simp[World.setCell,KZ,f]
theorem qJ (W:G)(b m:Nat)(v0 v1 v2 v3 v4 v5:ZD)(f:m≠b):(A (A (A (A (A (A W (Q b 0 Y) v0) (Q b 1 Y) v1) (Q b 2 Y) v2) (Q b 3 Y) v3) (Q b 4 Y) v4) (Q b 5 Y) v5).heap[m]?=W.heap[m]?:=by have far:∀(V:G) (j:Nat) (u:ZD),(A V (Q b j Y) u).heap[m]?=V.heap[m]?:=λV j u=>qh V (Q b j Y) u m (by simpa using f);rw[far,far,far,far,far,far]
theorem rK (W:G)(b B:Nat)(v0 v1 v2 v3 v4 v5:ZD)(f:B<=b):Below B W (A (A (A (A (A (A W (Q b 0 Y) v0) (Q b 1 Y) v1) (Q b 2 Y) v2) (Q b 3 Y) v3) (Q b 4 Y) v4) (Q b 5 Y) v5) :=
 ((((((cM B W).setCell (p:=(Q b 0 Y)) f v0).setCell (p:=(Q b 1 Y)) f v1).setCell (p:=(Q b 2 Y)) f v2).setCell (p:=(Q b 3 Y)) f v3).setCell (p:=(Q b 4 Y)) f v4).setCell (p:=(Q b 5 Y)) f v5
def DL (ZO:Nat)(w0 w:G)(R base g0:Nat)(v0 v1 v2 v3 v4:ZD)(q:Nat)(e:Ending)(b:G):Prop:=∃(g n c:Nat) (f:Nat->Link),e=ZG (ZH #[v0,v1,v2,v3,v4,Z (T (Q g 0 Y)) n c])/\ZT b base 68 4 (Z (T (Q g 0 Y)) n c) n (bq f n)/\n<=ZO+1/\(∀j,j<n->(f j).e.size<=5000)/\(∃q':Nat,q'<=q/\Rd b R q')/\Only R w0 b/\∀k,k<w.heap.size->k≠R->k≠g0->b.heap[k]?=w.heap[k]?
theorem LStD.fin{ZO:Nat}{g0 c:Nat}(h:LStD w0 w R base g0 v0 v1 v2 v3 v4 W q g n c f)(hn:n<=ZO+1)(o:q<=ZN)(u0 u1 u2 u3 u4 u5:ZD):DL ZO w0 w R base g0 v0 v1 v2 v3 v4 ZN (ZG (ZH #[v0,v1,v2,v3,v4,Z (T (Q g 0 Y)) n c])) (A (A (A (A (A (A W (Q (w.heap.size+1) 0 Y) u0) (Q (w.heap.size+1) 1 Y) u1) (Q (w.heap.size+1) 2 Y) u2) (Q (w.heap.size+1) 3 Y) u3) (Q (w.heap.size+1) 4 Y) u4) (Q (w.heap.size+1) 5 Y) u5):=by
 obtain⟨e1,m,e3,e4⟩:=h.gne;have h1:=h.hR;have h2:=h.hb;have h3:=h.hbw;have l:=rK W (w.heap.size+1) base u0 u1 u2 u3 u4 u5 (by omega);refine⟨g,n,c,f,rfl,cH h.y λk b _=>qJ _ _ _ _ _ _ _ _ _ ?_,hn,h.nm,⟨q,o,h.rd.low l (by omega)⟩,h.on.then (l.mono h2),λk b i j=>(qJ _ _ _ _ _ _ _ _ _ (by omega)).trans (h.same k b i j)⟩;have:k=g:=by simpa[Value.ownBlock] using b.symm
 rw[this];exact m
variable {K:Nat}
def atD (x:af)(j:Nat)(z:Int):af:={ x with m:=λi=>if i=j then { x.m j with L:=z } else x.m i }
theorem FitK.L{x:af}(h:FitK K x)(b:j<x.f)(z:Int):FitK K (atD x j z):=by
 refine⟨h.nm,h.tx,h.an,h.asz,h.ln,λi hi=>?_⟩;show(if i=j then { x.m j with L:=z } else x.m i).e.size<=5000;split;{exact h.lsz j b};{exact h.lsz i hi}
theorem SpS.am{c f cl:Nat}(h:SpS K w R X W q a c D)(P:(D.map (·.2.2)).Pairwise Apt)(M:D[i]?=T r)(C:r.2.2=Z (T (Q f 0 Y)) r.1.f cl)(ZM:j<r.1.f)(z:Int):SpS K w R X (A W (Q f (j*4+3) Y) (J I z)) q a c (D.set i (atD r.1 j z,r.2)):=by
 have u:=IN M;have hlo:=h.lo;have hX:=h.hX;have hn:(D.set i (atD r.1 j z,r.2)).length=D.length:=KP;obtain⟨cl2,zl,ZS⟩:=eF (h.row.sub r u).am f (by rw[C];rfl);have ZK:w.heap.size+2<=f:=((h.row.sub r u).am.lt f (by rw[C];rfl)).1;have ZL:X≠f:=λe=>by have:=h.bx;rw[e,ZS] at this;simp at this
 have B:=(cM (w.heap.size+2) W).setCell (p:=(Q f (j*4+3) Y)) ZK (J I z);have far:∀m,m≠f->(A W (Q f (j*4+3) Y) (J I z)).heap[m]?=W.heap[m]?:=λm l=>qh _ _ _ _ l;have ZO:∀m e,OfTy W m e->e≠68->m≠f:=λm e n ZJ t=>by obtain⟨c0,z0,g⟩:=n;rw[t,ZS] at g;simp at g;exact ZJ g.2.1.symm
 have ZN:(D.set i (atD r.1 j z,r.2)).flatMap ddV=D.flatMap ddV:=by
  have e:∀(L:List DR) (i:Nat),L[i]?=T r->(L.set i (atD r.1 j z,r.2)).flatMap ddV=L.flatMap ddV:=by
   intro L;induction L with
   |nil=>intro i g;simp at g
   |cons x L ih =>
    intro i g;cases i with
    |zero =>
     obtain rfl:x=r:=by simpa using g
     rfl
    |succ i =>
     have h1:L[i]?=T r:=by simpa using g
     rw[QX,LI,LI,ih i h1]
  exact e D i M
 refine⟨h.rd.low B (by omega),h.o.then (B.mono (by omega)),(B.block _ (by omega)).trans h.rs,?_,⟨?_,λs hs=>?_⟩,nF h.aq ((h.aq r u).L ZM z),h.lo,h.hX,by rw[hn];exact h.num⟩;{rw[hn];exact(far X ZL).trans h.bx};{rw[hn,ZN];exact cH h.row.y λm _ n=>far m (ZO m _ n (by decide))}
 ·obtain⟨k,hi⟩:=ME hs;by_cases e:k=i;{subst e;rw[L8 (by rw[<-hn];exact(j2.1 hi).1)] at hi;obtain rfl:=GD hi;refine⟨cH (h.row.sub r u).u λm _ n=>far m (ZO m _ n (by decide)),?_⟩;have V:=(h.row.sub r u).am;show World.ownsRow _ _ _ _ r.2.2 r.1.f (bq (atD r.1 j z).m r.1.f);rw[C] at V ⊢;exact wZ V ZM (by omega) rfl}
  ·rw[NL (λt=>e t.symm)] at hi;have O:=IN hi;refine(h.row.sub s O).far (λm _ n=>far m (ZO m _ n (by decide))) λm l _=>far m λt=>?_;obtain⟨ZQ,H⟩:=j2.1 hi;obtain⟨ZP,E⟩:=j2.1 M;have y:r.2.2.ownBlock=T f:=by rw[C];rfl
   have S:=LD.1 P;rcases UG e with ZU|ZU;{have b:=S k i (by simpa using ZQ) (by simpa using ZP) ZU;rw[SU,SU,H,E] at b;rcases b with b|b;{rw[l] at b;cases b};{exact b (by rw[l,y,t])}};{have b:=S i k (by simpa using ZP) (by simpa using ZQ) ZU;rw[SU,SU,H,E] at b;rcases b with b|b;{rw[y] at b;cases b};{exact b (by rw[l,y,t])}}
theorem Du (b:D[i]?=T r)(x:af):(D.set i (x,r.2)).map (·.2)=D.map (·.2):=by
 rw[List.map_set];refine OD λk=>?_;by_cases e:k=i;{subst e;rw[L8 (by rw[LR];exact(j2.1 b).1),HU,b];rfl};{rw[NL (λf=>e f.symm)]}
theorem SpS.aside{c:Nat}{p:Array ZD}{z:Nat × Nat}(h:SpS K w R X W q (T (Q g 0 Y)) c D)(hb:w.heap.size+2<=b)(hX:b≠X)(u:b≠g)(hF:W.heap[b]?=T (N p 44 z))(v0 v1 v2 v3 v4 v5:ZD):SpS K w R X (A (A (A (A (A (A W (Q b 0 Y) v0) (Q b 1 Y) v1) (Q b 2 Y) v2) (Q b 3 Y) v3) (Q b 4 Y) v4) (Q b 5 Y) v5) q (T (Q g 0 Y)) c D:=by
 have hlo:=h.lo;have B:=rK W b (w.heap.size+2) v0 v1 v2 v3 v4 v5 hb;have far:=λm=>qJ W b m v0 v1 v2 v3 v4 v5;have j:∀m e,OfTy W m e->e≠44->m≠b:=λm e f t l=>by obtain⟨c0,z0,i⟩:=f;rw[l,hF] at i;simp at i;exact t i.2.1.symm
 refine⟨h.rd.low B (by omega),h.o.then (B.mono (by omega)),(B.block _ (by omega)).trans h.rs,(far X (λe=>hX e.symm)).trans h.bx,⟨cH h.row.y λm n _=>?_,λs r=>(h.row.sub s r).far (λm _ f=>far m (j m _ f (by decide))) (λm _ f=>far m (j m _ f (by decide)))⟩,h.aq,h.lo,h.hX,h.num⟩;obtain rfl:g=m:=by simpa[Value.ownBlock] using n
 exact far g λe=>u e.symm
def lQ (nm tx:ByteArray)(kd:Int):DR:=({ fk with e:=nm,H:=kd,B:=tx },Z Y 0 0,Z Y 0 0)
theorem uH{nm tx:ByteArray}(kd:Int)(h1:nm.size<=5000)(h2:tx.size<=2000+K):FitK K (lQ nm tx kd).1:=⟨h1,h2,DN _,λj b=>absurd b (by simp[lQ,fk]),DN _,λj b=>absurd b (by simp[lQ,fk])⟩
theorem Dv (w:G)(base:Nat)(nm tx:ByteArray)(kd:Int):DSub w base (lQ nm tx kd):=⟨CL _ _ _ _,CL _ _ _ _⟩
theorem Gt (h:D.Pairwise λa b=>Apt a.2.1 b.2.1/\Apt a.2.2 b.2.2)(nm tx:ByteArray)(kd:Int):((lQ nm tx kd::D).map (·.2.2)).Pairwise Apt:=by rw[QR,List.pairwise_cons];exact⟨λx _=>.inl rfl,List.pairwise_map.2 (h.imp λh=>h.2)⟩
def Ek:Prop:=∀(m:Nat) (w:G),m<=61->Calls Tryz.prog 56 #[J I m] w λe b=>∃(a:Option Addr) (n c:Nat) (f:Nat->af),e=ZG (ZH #[Z a n c])/\HAc w.heap.size b a n c f/\Below w.heap.size w b/\n<=450/\∀i,i<n->FitK 0 (f i)
theorem SpS.other{W':G}{c:Nat}{f:Option Addr}{j:Nat->af}(h:SpS K w R X W q a c D)(m:Below W.heap.size W W')(hH:HAc W.heap.size W' f b g j)(hn:b<=450)(n:∀i,i<b->FitK 0 (j i))(s:q<=ZN):DAK K w R ZN (ZG (ZH #[Z f b g])) (A W' (Q (w.heap.size+1) 0 Y) (Z f b g)):=by
 have l:=h.aa m;have hl:=h.lo;have hx:=h.lt;have hX:=h.hX;have B:=(cM w.heap.size W').setCell (p:=(Q (w.heap.size+1) 0 Y)) (IS _) (Z f b g);have r:Agr W.heap.size W' (A W' (Q (w.heap.size+1) 0 Y) (Z f b g)):=⟨by simp,λk h1 _=>qh _ _ _ _ (by show k≠w.heap.size+1;omega)⟩
 exact⟨f,b,g,j,rfl,(hH.agr r).mono (by omega),⟨q,s,l.rd.low B h.lo,l.o.then B⟩,by omega,λi hi=>(n i hi).up (DN _)⟩
