import Derived.Test.YtoddkejemcbkmaaGreatDoorPD
import Derived.Deep.AppendLies
set_option linter.unusedSimpArgs false
open Go renaming Addr.mk->Q,Value.slice->Z,Value.string->U,Value.int->J,Obj.cells->N,IntKind.i64->I,World->M,Value->ZC,Ending.returned->ZF
open Option renaming none->Y,some->T
namespace Go.Proofs.YtoddkejemcbkmaaGreatDoor.Vp
open RowKit Ca
variable {j base g n c X ZM i:Nat}{D:List DR}{w:M}{u:ZC}{f:Nat->Link}{y:Link}{a:Option Addr}{r:DR}
def LBx (W:M)(b:Nat)(v0 v1 v2 v3 v4 v5:ZC):Prop:=W.heap[b]?=T (N #[v0,v1,v2,v3,v4,v5] 62 (0,0))
section
variable {W W':M}{b:Nat}{v0 v1 v2 v3 v4 v5:ZC}
theorem LBx.lt (h:LBx W b v0 v1 v2 v3 v4 v5):b<W.heap.size:=ah h
theorem LBx.cells (h:LBx W b v0 v1 v2 v3 v4 v5):W.cell? (Q b 0 Y)=T v0/\W.cell? (Q b 1 Y)=T v1/\W.cell? (Q b 2 Y)=T v2/\W.cell? (Q b 3 Y)=T v3/\W.cell? (Q b 4 Y)=T v4/\W.cell? (Q b 5 Y)=T v5:=by have c:W.heap[b]?=T (N #[v0,v1,v2,v3,v4,v5] 62 (0,0)):=h;refine⟨?_,?_,?_,?_,?_,?_⟩<;>simp[World.cell?,c]
theorem LBx.fz (h:LBx W b v0 v1 v2 v3 v4 v5)(j:Nat):W.frozen? (Q b j Y)=false:=by have c:W.heap[b]?=T (N #[v0,v1,v2,v3,v4,v5] 62 (0,0)):=h;simp[World.frozen?,c]
theorem LBx.ab (h:LBx W b v0 v1 v2 v3 v4 v5)(e:W'.heap[b]?=W.heap[b]?):LBx W' b v0 v1 v2 v3 v4 v5:=e.trans h
theorem LBx.set5 (h:LBx W b v0 v1 v2 v3 v4 v5)(u:ZC):LBx (W.setCell (Q b 5 Y) u) b v0 v1 v2 v3 v4 u:=by have c:W.heap[b]?=T (N #[v0,v1,v2,v3,v4,v5] 62 (0,0)):=h;show(W.setCell (Q b 5 Y) u).heap[b]?=_;simp[World.setCell,CV,c]
end
theorem BR{b:Type}(f:Nat->b)(n k:Nat)(y:b):((List.range n).map f).set k y=(List.range n).map (λi=>if i=k then y else f i):=by
 refine RH λi=>?_;rw[List.getElem?_set,MK,MK];by_cases hi:i<n;{by_cases e:k=i;{subst e;simp[hi]};{have c:¬ i=k:=λh=>e h.symm;simp[hi,e,c]}};{by_cases e:k=i;{subst e;simp[hi]};{simp[hi,e]}}
theorem xL{k:Nat}(h:w.ownsRow base 93 4 (Z (T (Q g 0 Y)) n c) n (bo f n))(l:k<n)(m:j<4)(o:cP y=(cP (f k)).set j u):(w.setCell (Q g (k*4+j) Y) u).ownsRow base 93 4 (Z (T (Q g 0 Y)) n c) n (bo (λi=>if i=k then y else f i) n):=by have b:=nd (j:=k*4+j) h u;have e:=kv cP 4 (λ_=>rfl) m o ((List.range n).map f) k (by simp[l]);rw[BR] at e;unfold bo at b ⊢;rw[e] at b;exact b
theorem cV{k:Nat}(h:w.ownsRow base 93 4 (Z (T (Q g 0 Y)) n c) n (bo f n))(b:k<n)(i:j<4)(l:(cP (f k))[j]?=T u):w.cell? (Q g (k*4+j) Y)=T u/\w.frozen? (Q g (k*4+j) Y)=false :=
 cO h (j:=k*4+j) (by rw[jG f b j i];exact l)
theorem GV{size:Nat}{e:TypeId}{i:List ZC}(h:w.ownsRow base e size (Z (T (Q g 0 Y)) n c) n i):base<=g/\∃j,w.heap[g]?=T (N j e (0,0)):=by
 rcases h.2 with ⟨b,_⟩|⟨g',cap,cur,b,hb,f,_⟩
 {cases b}
 ·cases b
  exact⟨hb,_,f⟩
structure LStD (w0 w:M)(R base g0:Nat)(v0 v1 v2 v3 v4:ZC)(W:M)(q g n c:Nat)(f:Nat->Link):Prop where
 bx:LBx W w.heap.size v0 v1 v2 v3 v4 (Z (T (Q g 0 Y)) n c)
 rs:LBx W (w.heap.size+1) (U ⟨#[]⟩) (J I 0) (J I 0) (U ⟨#[]⟩) (Z Y 0 0) (Z Y 0 0)
 rd:Rd W R q
 i:W.ownsRow base 93 4 (Z (T (Q g 0 Y)) n c) n (bo f n)
 on:Only R w0 W
 same:∀k,k<w.heap.size->k≠R->k≠g0->W.heap[k]?=w.heap[k]?
 gg:g=g0∨w.heap.size<=g
 nm:∀j,j<n->(f j).e.size<=5000
 hR:R<w0.heap.size
 hb:w0.heap.size<=base
 hbw:base<=w.heap.size
section
variable {w0 w W W':M}{R base g0 q q' g n c:Nat}{v0 v1 v2 v3 v4:ZC}{f:Nat->Link}
theorem LStD.lt (h:LStD w0 w R base g0 v0 v1 v2 v3 v4 W q g n c f):w.heap.size+2<=W.heap.size:=h.rs.lt
theorem LStD.F (h:LStD w0 w R base g0 v0 v1 v2 v3 v4 W q g n c f)(b:Only R W W')(m:Rd W' R q'):LStD w0 w R base g0 v0 v1 v2 v3 v4 W' q' g n c f:=by have h1:=h.hR;have h2:=h.hb;have h3:=h.hbw;have h4:=h.lt;exact⟨h.bx.ab (b.block _ h.bx.lt (by omega)),h.rs.ab (b.block _ h.rs.lt (by omega)),m,gj h.i b (by omega),h.on.trans b,λk l i j=>(b.block k (by omega) i).trans (h.same k l i j),h.gg,h.nm,h1,h2,h3⟩
theorem LStD.aa (h:LStD w0 w R base g0 v0 v1 v2 v3 v4 W q g n c f)(b:Below W.heap.size W W'):LStD w0 w R base g0 v0 v1 v2 v3 v4 W' q g n c f:=h.F (Only.u b) (h.rd.aa b ly)
theorem LStD.gne (h:LStD w0 w R base g0 v0 v1 v2 v3 v4 W q g n c f):g≠w.heap.size/\g≠w.heap.size+1/\base<=g/\g<W.heap.size:=by
 obtain⟨hb,cs,b⟩:=GV h.i;refine⟨λe=>?_,λe=>?_,hb,ah b⟩;{have:=h.bx;unfold LBx at this;rw[<-e,b] at this;cases this};{have:=h.rs;unfold LBx at this;rw[<-e,b] at this;cases this}
theorem LStD.setL{k:Nat}(h:LStD w0 w R base g0 v0 v1 v2 v3 v4 W q g n c f)(z:k<n)(A:j<4)(C:cP y=(cP (f k)).set j u)(x:y.e.size<=5000):LStD w0 w R base g0 v0 v1 v2 v3 v4 (W.setCell (Q g (k*4+j) Y) u) q g n c (λi=>if i=k then y else f i):=by
 obtain⟨B,t,s,e4⟩:=h.gne;have h1:=h.hR;have h2:=h.hb;have o:Below base W (W.setCell (Q g (k*4+j) Y) u):=br.setCell (p:=(Q g (k*4+j) Y)) s u;have far:∀m,m≠g->(W.setCell (Q g (k*4+j) Y) u).heap[m]?=W.heap[m]?:=λm l=>qh W (Q g (k*4+j) Y) u m (by simpa using l);refine⟨h.bx.ab (far _ (λe=>B e.symm)),h.rs.ab (far _ (λe=>t e.symm)),h.rd.low o (by omega),xL h.i z A C,h.on.then (o.mono h2),λm l r b=>(far m ?_).trans (h.same m l r b),h.gg,λi hi=>?_,h1,h2,h.hbw⟩;{rcases h.gg with e|e;{rw[e];exact b};{omega}};{show(if i=k then y else f i).e.size<=5000;split;{exact x};{exact h.nm i hi}}
theorem LStD.setB{b n1 c1:Nat}{f1:Nat->Link}(h:LStD w0 w R base g0 v0 v1 v2 v3 v4 W q g n c f)(i:W.grownBy W' (T g))(z:W'.ownsRow base 93 4 (Z (T (Q b 0 Y)) n1 c1) n1 (bo f1 n1))(x:b=g∨w.heap.size<=b)(hn:∀j,j<n1->(f1 j).e.size<=5000):LStD w0 w R base g0 v0 v1 v2 v3 v4 (W'.setCell (Q w.heap.size 5 Y) (Z (T (Q b 0 Y)) n1 c1)) q b n1 c1 f1:=by
 obtain⟨C,A,y,e4⟩:=h.gne;have h1:=h.hR;have h2:=h.hb;have h3:=h.hbw;have h4:=h.lt;have hw0:=h.on.size;have D:Below base W W':=bg br i (by omega) (λj e=>by cases e;exact y);have t:Below base W (W'.setCell (Q w.heap.size 5 Y) (Z (T (Q b 0 Y)) n1 c1)):=D.setCell (p:=(Q w.heap.size 5 Y)) h3 _;have o:LBx W' w.heap.size v0 v1 v2 v3 v4 (Z (T (Q g 0 Y)) n c):=h.bx.ab (i.block _ h.bx.lt (by simpa using λe=>C e.symm));have s:=h.rs.ab (i.block _ h.rs.lt (by simpa using λe=>A e.symm));have far:∀m,m≠w.heap.size->(W'.setCell (Q w.heap.size 5 Y) (Z (T (Q b 0 Y)) n1 c1)).heap[m]?=W'.heap[m]?:=λm r=>qh W' (Q w.heap.size 5 Y) _ m (by simpa using r);refine⟨o.set5 _,s.ab (far _ (by omega)),h.rd.low t (by omega),ig z o (by decide) _,h.on.then (t.mono h2),λm r u l=>?_,?_,hn,h1,h2,h3⟩
 ·refine(far m (by omega)).trans ((i.block m (by omega) ?_).trans (h.same m r u l));rcases h.gg with e|e;{simpa[e] using l}
  ·intro B;have:m=g:=by simpa using B
   omega
 {rcases x with e|e;{rw[e];exact h.gg};{exact .inr e}}
end
theorem qb (W:M)(r:Option Nat):W.grownBy W r:=⟨rfl,rfl,rfl,n8 _,λ_ _ _=>rfl⟩
theorem GY{w0:M}{R p:Nat}{v0 v1 v2 v3 v4:ZC}(m:Only R w0 w)(hR:R<w0.heap.size)(hb:w0.heap.size<=base)(hbw:base<=w.heap.size)(q:Rd w R p)(h:w.ownsRow base 93 4 (Z (T (Q g 0 Y)) n c) n (bo f n))(b:∀j,j<n->(f j).e.size<=5000):LStD w0 w R base g v0 v1 v2 v3 v4 ((w.alloc (N #[v0,v1,v2,v3,v4,Z (T (Q g 0 Y)) n c] 62)).alloc (N #[U ⟨#[]⟩,J I 0,J I 0,U ⟨#[]⟩,Z Y 0 0,Z Y 0 0] 62)) p g n c f:=by
 have i:=(q9 w).alloc ly (N #[v0,v1,v2,v3,v4,Z (T (Q g 0 Y)) n c] 62);have hz:(w.alloc (N #[v0,v1,v2,v3,v4,Z (T (Q g 0 Y)) n c] 62)).heap.size=w.heap.size+1:=by simp
 have l:=(eL (w.alloc (N #[v0,v1,v2,v3,v4,Z (T (Q g 0 Y)) n c] 62)).heap.size (w.alloc (N #[v0,v1,v2,v3,v4,Z (T (Q g 0 Y)) n c] 62))).alloc ly (N #[U ⟨#[]⟩,J I 0,J I 0,U ⟨#[]⟩,Z Y 0 0,Z Y 0 0] 62);have A:=i.trans (l.mono i.size);have h2:=n6 (w.alloc (N #[v0,v1,v2,v3,v4,Z (T (Q g 0 Y)) n c] 62)) (N #[U ⟨#[]⟩,J I 0,J I 0,U ⟨#[]⟩,Z Y 0 0,Z Y 0 0] 62);rw[hz] at h2;exact⟨(l.block w.heap.size (by rw[hz];omega)).trans (n6 w _),h2,q.aa A ly,own_below h A ly,m.trans (Only.u A),λk o _ _=>A.block k o,.inl rfl,b,hR,hb,hbw⟩
theorem LBx.six{W:M}{b:Nat}{u0 u1 u2 u3 u4 u5:ZC}(h:LBx W b u0 u1 u2 u3 u4 u5)(v0 v1 v2 v3 v4 v5:ZC):LBx ((((((W.setCell (Q b 0 Y) v0).setCell (Q b 1 Y) v1).setCell (Q b 2 Y) v2).setCell (Q b 3 Y) v3).setCell (Q b 4 Y) v4).setCell (Q b 5 Y) v5) b v0 v1 v2 v3 v4 v5:=by have c:W.heap[b]?=T (N #[u0,u1,u2,u3,u4,u5] 62 (0,0)):=h;show((((((W.setCell (Q b 0 Y) v0).setCell (Q b 1 Y) v1).setCell (Q b 2 Y) v2).setCell (Q b 3 Y) v3).setCell (Q b 4 Y) v4).setCell (Q b 5 Y) v5).heap[b]?=_;simp[World.setCell,CV,c]
theorem qV (W:M)(b m:Nat)(v0 v1 v2 v3 v4 v5:ZC)(c:m≠b):((((((W.setCell (Q b 0 Y) v0).setCell (Q b 1 Y) v1).setCell (Q b 2 Y) v2).setCell (Q b 3 Y) v3).setCell (Q b 4 Y) v4).setCell (Q b 5 Y) v5).heap[m]?=W.heap[m]?:=by have far:∀(V:M) (j:Nat) (u:ZC),(V.setCell (Q b j Y) u).heap[m]?=V.heap[m]?:=λV j u=>qh V (Q b j Y) u m (by simpa using c);rw[far,far,far,far,far,far]
theorem se (W:M)(b B:Nat)(v0 v1 v2 v3 v4 v5:ZC)(c:B<=b):Below B W ((((((W.setCell (Q b 0 Y) v0).setCell (Q b 1 Y) v1).setCell (Q b 2 Y) v2).setCell (Q b 3 Y) v3).setCell (Q b 4 Y) v4).setCell (Q b 5 Y) v5) :=
 ((((((eL B W).setCell (p:=(Q b 0 Y)) c v0).setCell (p:=(Q b 1 Y)) c v1).setCell (p:=(Q b 2 Y)) c v2).setCell (p:=(Q b 3 Y)) c v3).setCell (p:=(Q b 4 Y)) c v4).setCell (p:=(Q b 5 Y)) c v5
def DL (ZN:Nat)(w0 w:M)(R base g0:Nat)(v0 v1 v2 v3 v4:ZC)(q:Nat)(e:Ending)(b:M):Prop:=∃(g n c:Nat) (f:Nat->Link),e=ZF (.agg #[v0,v1,v2,v3,v4,Z (T (Q g 0 Y)) n c])/\b.ownsRow base 93 4 (Z (T (Q g 0 Y)) n c) n (bo f n)/\n<=ZN+1/\(∀j,j<n->(f j).e.size<=5000)/\(∃q':Nat,q'<=q/\Rd b R q')/\Only R w0 b/\∀k,k<w.heap.size->k≠R->k≠g0->b.heap[k]?=w.heap[k]?
theorem LStD.fin{ZN:Nat}{w0 W:M}{R g0 q:Nat}{v0 v1 v2 v3 v4:ZC}(h:LStD w0 w R base g0 v0 v1 v2 v3 v4 W q g n c f)(hn:n<=ZN+1)(m:q<=ZM)(u0 u1 u2 u3 u4 u5:ZC):DL ZN w0 w R base g0 v0 v1 v2 v3 v4 ZM (ZF (.agg #[v0,v1,v2,v3,v4,Z (T (Q g 0 Y)) n c])) ((((((W.setCell (Q (w.heap.size+1) 0 Y) u0).setCell (Q (w.heap.size+1) 1 Y) u1).setCell (Q (w.heap.size+1) 2 Y) u2).setCell (Q (w.heap.size+1) 3 Y) u3).setCell (Q (w.heap.size+1) 4 Y) u4).setCell (Q (w.heap.size+1) 5 Y) u5):=by
 obtain⟨e1,o,e3,e4⟩:=h.gne;have h1:=h.hR;have h2:=h.hb;have h3:=h.hbw;have l:=se W (w.heap.size+1) base u0 u1 u2 u3 u4 u5 (by omega);refine⟨g,n,c,f,rfl,bE h.i λk b _=>qV _ _ _ _ _ _ _ _ _ ?_,hn,h.nm,⟨q,m,h.rd.low l (by omega)⟩,h.on.then (l.mono h2),λk b j i=>(qV _ _ _ _ _ _ _ _ _ (by omega)).trans (h.same k b j i)⟩;have:k=g:=by simpa[Value.ownBlock] using b.symm
 rw[this];exact o
variable {K:Nat}
def atD (x:Deed)(j:Nat)(z:Int):Deed:={ x with m:=λi=>if i=j then { x.m j with L:=z } else x.m i }
theorem FitK.L{x:Deed}(h:FitK K x)(b:j<x.b)(z:Int):FitK K (atD x j z):=by
 refine⟨h.nm,h.tx,h.an,h.asz,h.ln,λi hi=>?_⟩;show(if i=j then { x.m j with L:=z } else x.m i).e.size<=5000;split;{exact h.lsz j b};{exact h.lsz i hi}
theorem SpS.V{W:M}{R q f ZJ:Nat}(h:SpS K w R X W q a c D)(V:(D.map (·.2.2)).Pairwise Apt)(ZO:D[i]?=T r)(C:r.2.2=Z (T (Q f 0 Y)) r.1.b ZJ)(ZK:j<r.1.b)(z:Int):SpS K w R X (W.setCell (Q f (j*4+3) Y) (J I z)) q a c (D.set i (atD r.1 j z,r.2)):=by
 have y:=L8 ZO;have hlo:=h.lo;have hX:=h.hX;have hn:(D.set i (atD r.1 j z,r.2)).length=D.length:=LN;obtain⟨cl2,zl,ZP⟩:=bq (h.row.sub r y).V f (by rw[C];rfl);have S:w.heap.size+2<=f:=((h.row.sub r y).V.lt f (by rw[C];rfl)).1;have ZL:X≠f:=λe=>by have:=h.bx;rw[e,ZP] at this;simp at this
 have B:=(eL (w.heap.size+2) W).setCell (p:=(Q f (j*4+3) Y)) S (J I z);have far:∀m,m≠f->(W.setCell (Q f (j*4+3) Y) (J I z)).heap[m]?=W.heap[m]?:=λm l=>qh _ _ _ _ l;have ZQ:∀m e,OfTy W m e->e≠93->m≠f:=λm e n ZI t=>by obtain⟨c0,z0,g⟩:=n;rw[t,ZP] at g;simp at g;exact ZI g.2.1.symm
 have ZM:(D.set i (atD r.1 j z,r.2)).flatMap ddV=D.flatMap ddV:=by
  have e:∀(L:List DR) (i:Nat),L[i]?=T r->(L.set i (atD r.1 j z,r.2)).flatMap ddV=L.flatMap ddV:=by
   intro L;induction L with
   |nil=>intro i g;simp at g
   |cons x L ih =>
    intro i g;cases i with
    |zero =>
     obtain rfl:x=r:=by simpa using g
     rfl
    |succ i =>
     have h1:L[i]?=T r:=by simpa using g
     rw[TC,J2,J2,ih i h1]
  exact e D i ZO
 refine⟨h.rd.low B (by omega),h.o.then (B.mono (by omega)),(B.block _ (by omega)).trans h.rs,?_,⟨?_,λs hs=>?_⟩,lu h.ak ((h.ak r y).L ZK z),h.lo,h.hX,by rw[hn];exact h.num⟩;{rw[hn];exact(far X ZL).trans h.bx};{rw[hn,ZM];exact bE h.row.i λm _ n=>far m (ZQ m _ n (by decide))}
 ·obtain⟨k,hi⟩:=PT hs;by_cases e:k=i;{subst e;rw[NT (by rw[<-hn];exact(p6.1 hi).1)] at hi;obtain rfl:=BO hi;refine⟨bE (h.row.sub r y).G λm _ n=>far m (ZQ m _ n (by decide)),?_⟩;have O:=(h.row.sub r y).V;show World.ownsRow _ _ _ _ r.2.2 r.1.b (bo (atD r.1 j z).m r.1.b);rw[C] at O ⊢;exact xL O ZK (by omega) rfl}
  ·rw[OR (λt=>e t.symm)] at hi;have ZN:=L8 hi;refine(h.row.sub s ZN).far (λm _ n=>far m (ZQ m _ n (by decide))) λm l _=>far m λt=>?_;obtain⟨F,E⟩:=p6.1 hi;obtain⟨G,H⟩:=p6.1 ZO;have A:r.2.2.ownBlock=T f:=by rw[C];rfl
   have P:=NP.1 V;rcases Nat.lt_or_gt_of_ne e with u|u;{have b:=P k i (by simpa using F) (by simpa using G) u;rw[T8,T8,E,H] at b;rcases b with b|b;{rw[l] at b;cases b};{exact b (by rw[l,A,t])}};{have b:=P i k (by simpa using G) (by simpa using F) u;rw[T8,T8,E,H] at b;rcases b with b|b;{rw[A] at b;cases b};{exact b (by rw[l,A,t])}}
theorem EU (b:D[i]?=T r)(x:Deed):(D.set i (x,r.2)).map (·.2)=D.map (·.2):=by
 rw[List.map_set];refine RH λk=>?_;by_cases e:k=i;{subst e;rw[NT (by rw[PK];exact(p6.1 b).1),MK,b];rfl};{rw[OR (λc=>e c.symm)]}
theorem SpS.aside{W:M}{R q b:Nat}{r:Array ZC}{z:Nat × Nat}(h:SpS K w R X W q (T (Q g 0 Y)) c D)(hb:w.heap.size+2<=b)(hX:b≠X)(l:b≠g)(hF:W.heap[b]?=T (N r 62 z))(v0 v1 v2 v3 v4 v5:ZC):SpS K w R X ((((((W.setCell (Q b 0 Y) v0).setCell (Q b 1 Y) v1).setCell (Q b 2 Y) v2).setCell (Q b 3 Y) v3).setCell (Q b 4 Y) v4).setCell (Q b 5 Y) v5) q (T (Q g 0 Y)) c D:=by
 have hlo:=h.lo;have B:=se W b (w.heap.size+2) v0 v1 v2 v3 v4 v5 hb;have far:=λm=>qV W b m v0 v1 v2 v3 v4 v5;have j:∀m e,OfTy W m e->e≠62->m≠b:=λm e f n p=>by obtain⟨c0,z0,i⟩:=f;rw[p,hF] at i;simp at i;exact n i.2.1.symm
 refine⟨h.rd.low B (by omega),h.o.then (B.mono (by omega)),(B.block _ (by omega)).trans h.rs,(far X (λe=>hX e.symm)).trans h.bx,⟨bE h.row.i λm u _=>?_,λs t=>(h.row.sub s t).far (λm _ f=>far m (j m _ f (by decide))) (λm _ f=>far m (j m _ f (by decide)))⟩,h.ak,h.lo,h.hX,h.num⟩;obtain rfl:g=m:=by simpa[Value.ownBlock] using u
 exact far g λe=>l e.symm
def ju (nm tx:ByteArray)(kd:Int):DR:=({ ft with e:=nm,E:=kd,h:=tx },Z Y 0 0,Z Y 0 0)
theorem pc{nm tx:ByteArray}(kd:Int)(h1:nm.size<=5000)(h2:tx.size<=2000+K):FitK K (ju nm tx kd).1:=⟨h1,h2,E4 _,λj b=>absurd b (by simp[ju,ft]),E4 _,λj b=>absurd b (by simp[ju,ft])⟩
theorem uQ (w:M)(base:Nat)(nm tx:ByteArray)(kd:Int):DSub w base (ju nm tx kd):=⟨AT _ _ _ _,AT _ _ _ _⟩
theorem Is (h:D.Pairwise λa b=>Apt a.2.1 b.2.1/\Apt a.2.2 b.2.2)(nm tx:ByteArray)(kd:Int):((ju nm tx kd::D).map (·.2.2)).Pairwise Apt:=by rw[MX,List.pairwise_cons];exact⟨λx _=>.inl rfl,List.pairwise_map.2 (h.imp λh=>h.2)⟩
def FH:Prop:=∀(m:Nat) (w:M),m<=61->Calls Tryz.prog 79 #[J I m] w λe b=>∃(a:Option Addr) (n c:Nat) (f:Nat->Deed),e=ZF (.agg #[Z a n c])/\HAc w.heap.size b a n c f/\Below w.heap.size w b/\n<=450/\∀i,i<n->FitK 0 (f i)
theorem SpS.other{W W':M}{R q f b:Nat}{g:Option Addr}{j:Nat->Deed}(h:SpS K w R X W q a c D)(r:Below W.heap.size W W')(hH:HAc W.heap.size W' g b f j)(hn:b<=450)(s:∀i,i<b->FitK 0 (j i))(n:q<=ZM):DAK K w R ZM (ZF (.agg #[Z g b f])) (W'.setCell (Q (w.heap.size+1) 0 Y) (Z g b f)):=by
 have l:=h.aa r;have hl:=h.lo;have hx:=h.lt;have hX:=h.hX;have B:=(eL w.heap.size W').setCell (p:=(Q (w.heap.size+1) 0 Y)) (F3 _) (Z g b f);have m:Agr W.heap.size W' (W'.setCell (Q (w.heap.size+1) 0 Y) (Z g b f)):=⟨by simp,λk h1 _=>qh _ _ _ _ (by show k≠w.heap.size+1;omega)⟩
 exact⟨g,b,f,j,rfl,(hH.agr m).mono (by omega),⟨q,n,l.rd.low B h.lo,l.o.then B⟩,by omega,λi hi=>(s i hi).up (E4 _)⟩
