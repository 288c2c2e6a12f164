import Derived.Test.YtamacmnikdejeaaGreatDoorKI
import Derived.Deep.AppendLies
set_option linter.unusedSimpArgs false
open Go renaming Addr.mk->Q,Value.slice->Y,Value.string->U,Value.int->J,Value.agg->ZG,Obj.cells->N,IntKind.i64->I,World->E,Value->ZB,Ending.returned->ZF,World.heap->B
open Option renaming none->Z,some->T
open Array renaming size->A
namespace Go.Proofs.YtamacmnikdejeaaGreatDoor.Vp
open RowKit Ca
variable {j base g n X ZM i:Nat}{D:List DR}{w:E}{u:ZB}{f:Nat->Link}{y:Link}{a:Option Addr}{r:DR}
def LBx (W:E)(b:Nat)(v0 v1 v2 v3 v4 v5:ZB):Prop:=W.heap[b]?=T (N #[v0,v1,v2,v3,v4,v5] 46 (0,0))
section
variable {W W':E}{b:Nat}{v0 v1 v2 v3 v4 v5:ZB}
theorem LBx.lt (h:LBx W b v0 v1 v2 v3 v4 v5):b<A (B W):=ar h
theorem LBx.cells (h:LBx W b v0 v1 v2 v3 v4 v5):W.cell? (Q b 0 Z)=T v0/\W.cell? (Q b 1 Z)=T v1/\W.cell? (Q b 2 Z)=T v2/\W.cell? (Q b 3 Z)=T v3/\W.cell? (Q b 4 Z)=T v4/\W.cell? (Q b 5 Z)=T v5:=by have f:W.heap[b]?=T (N #[v0,v1,v2,v3,v4,v5] 46 (0,0)):=h;refine⟨?_,?_,?_,?_,?_,?_⟩<;>simp[World.cell?,f]
theorem LBx.fz (h:LBx W b v0 v1 v2 v3 v4 v5)(j:Nat):W.frozen? (Q b j Z)=false:=by have f:W.heap[b]?=T (N #[v0,v1,v2,v3,v4,v5] 46 (0,0)):=h;simp[World.frozen?,f]
theorem LBx.ab (h:LBx W b v0 v1 v2 v3 v4 v5)(e:W'.heap[b]?=W.heap[b]?):LBx W' b v0 v1 v2 v3 v4 v5:=e.trans h
theorem LBx.set5 (h:LBx W b v0 v1 v2 v3 v4 v5)(u:ZB):LBx (W.setCell (Q b 5 Z) u) b v0 v1 v2 v3 v4 u:=by have f:W.heap[b]?=T (N #[v0,v1,v2,v3,v4,v5] 46 (0,0)):=h;show(W.setCell (Q b 5 Z) u).heap[b]?=_;simp[World.setCell,LE,f]
end
theorem AF{b:Type}(f:Nat->b)(n k:Nat)(y:b):((List.range n).map f).set k y=(List.range n).map (λi=>if i=k then y else f i):=by
 refine QC λi=>?_;rw[List.getElem?_set,KN,KN];by_cases hi:i<n;{by_cases e:k=i;{subst e;simp[hi]};{have g:¬ i=k:=λh=>e h.symm;simp[hi,e,g]}};{by_cases e:k=i;{subst e;simp[hi]};{simp[hi,e]}}
theorem xe{c k:Nat}(h:w.ownsRow base 129 4 (Y (T (Q g 0 Z)) n c) n (bY f n))(l:k<n)(m:j<4)(o:dl y=(dl (f k)).set j u):(w.setCell (Q g (k*4+j) Z) u).ownsRow base 129 4 (Y (T (Q g 0 Z)) n c) n (bY (λi=>if i=k then y else f i) n):=by have b:=gw (j:=k*4+j) h u;have e:=jI dl 4 (λ_=>rfl) m o ((List.range n).map f) k (by simp[l]);rw[AF] at e;unfold bY at b ⊢;rw[e] at b;exact b
theorem cQ{c k:Nat}(h:w.ownsRow base 129 4 (Y (T (Q g 0 Z)) n c) n (bY f n))(b:k<n)(i:j<4)(l:(dl (f k))[j]?=T u):w.cell? (Q g (k*4+j) Z)=T u/\w.frozen? (Q g (k*4+j) Z)=false :=
 bk h (j:=k*4+j) (by rw[jg f b j i];exact l)
theorem FG{size c:Nat}{e:TypeId}{j:List ZB}(h:w.ownsRow base e size (Y (T (Q g 0 Z)) n c) n j):base<=g/\∃i,w.heap[g]?=T (N i e (0,0)):=by
 rcases h.2 with ⟨b,_⟩|⟨g',cap,cur,b,hb,f,_⟩
 {cases b}
 ·cases b
  exact⟨hb,_,f⟩
structure LStD (w0 w:E)(R base g0:Nat)(v0 v1 v2 v3 v4:ZB)(W:E)(q g n c:Nat)(f:Nat->Link):Prop where
 bx:LBx W (A (B w)) v0 v1 v2 v3 v4 (Y (T (Q g 0 Z)) n c)
 rs:LBx W (A (B w)+1) (U ⟨#[]⟩) (J I 0) (J I 0) (U ⟨#[]⟩) (Y Z 0 0) (Y Z 0 0)
 rd:Rd W R q
 y:W.ownsRow base 129 4 (Y (T (Q g 0 Z)) n c) n (bY f n)
 on:Only R w0 W
 same:∀k,k<A (B w)->k≠R->k≠g0->W.heap[k]?=w.heap[k]?
 gg:g=g0∨(A (B w))<=g
 nm:∀j,j<n->(f j).e.size<=5000
 hR:R<A (B w0)
 hb:A (B w0)<=base
 hbw:base<=A (B w)
section
variable {w0 w W W':E}{R base g0 q q' g n c:Nat}{v0 v1 v2 v3 v4:ZB}{f:Nat->Link}
theorem LStD.lt (h:LStD w0 w R base g0 v0 v1 v2 v3 v4 W q g n c f):A (B w)+2<=A (B W):=h.rs.lt
theorem LStD.ac (h:LStD w0 w R base g0 v0 v1 v2 v3 v4 W q g n c f)(b:Only R W W')(l:Rd W' R q'):LStD w0 w R base g0 v0 v1 v2 v3 v4 W' q' g n c f:=by have h1:=h.hR;have h2:=h.hb;have o:=h.hbw;have h4:=h.lt;exact⟨h.bx.ab (b.block _ h.bx.lt (by omega)),h.rs.ab (b.block _ h.rs.lt (by omega)),l,fS h.y b (by omega),h.on.trans b,λk m i j=>(b.block k (by omega) i).trans (h.same k m i j),h.gg,h.nm,h1,h2,o⟩
theorem LStD.aa (h:LStD w0 w R base g0 v0 v1 v2 v3 v4 W q g n c f)(b:Below (A (B W)) W W'):LStD w0 w R base g0 v0 v1 v2 v3 v4 W' q g n c f:=h.ac (Only.q b) (h.rd.aa b ly)
theorem LStD.gne (h:LStD w0 w R base g0 v0 v1 v2 v3 v4 W q g n c f):g≠A (B w)/\g≠A (B w)+1/\base<=g/\g<A (B W):=by
 obtain⟨hb,cs,b⟩:=FG h.y;refine⟨λe=>?_,λe=>?_,hb,ar b⟩;{have:=h.bx;unfold LBx at this;rw[<-e,b] at this;cases this};{have:=h.rs;unfold LBx at this;rw[<-e,b] at this;cases this}
theorem LStD.setL{k:Nat}(h:LStD w0 w R base g0 v0 v1 v2 v3 v4 W q g n c f)(s:k<n)(C:j<4)(ZS:dl y=(dl (f k)).set j u)(z:y.e.size<=5000):LStD w0 w R base g0 v0 v1 v2 v3 v4 (W.setCell (Q g (k*4+j) Z) u) q g n c (λi=>if i=k then y else f i):=by
 obtain⟨x,t,ZR,e4⟩:=h.gne;have h1:=h.hR;have h2:=h.hb;have o:Below base W (W.setCell (Q g (k*4+j) Z) u):=br.setCell (p:=(Q g (k*4+j) Z)) ZR u;have far:∀m,m≠g->(W.setCell (Q g (k*4+j) Z) u).heap[m]?=W.heap[m]?:=λm l=>qh W (Q g (k*4+j) Z) u m (by simpa using l);refine⟨h.bx.ab (far _ (λe=>x e.symm)),h.rs.ab (far _ (λe=>t e.symm)),h.rd.low o (by omega),xe h.y s C ZS,h.on.then (o.mono h2),λm l r b=>(far m ?_).trans (h.same m l r b),h.gg,λi hi=>?_,h1,h2,h.hbw⟩;{rcases h.gg with e|e;{rw[e];exact b};{omega}};{show(if i=k then y else f i).e.size<=5000;split;{exact z};{exact h.nm i hi}}
theorem LStD.setB{b n1 c1:Nat}{f1:Nat->Link}(h:LStD w0 w R base g0 v0 v1 v2 v3 v4 W q g n c f)(i:W.grownBy W' (T g))(D:W'.ownsRow base 129 4 (Y (T (Q b 0 Z)) n1 c1) n1 (bY f1 n1))(y:b=g∨(A (B w))<=b)(hn:∀j,j<n1->(f1 j).e.size<=5000):LStD w0 w R base g0 v0 v1 v2 v3 v4 (W'.setCell (Q (A (B w)) 5 Z) (Y (T (Q b 0 Z)) n1 c1)) q b n1 c1 f1:=by
 obtain⟨C,ZR,ZQ,e4⟩:=h.gne;have h1:=h.hR;have h2:=h.hb;have t:=h.hbw;have h4:=h.lt;have hw0:=h.on.size;have z:Below base W W':=bg br i (by omega) (λj e=>by cases e;exact ZQ);have u:Below base W (W'.setCell (Q (A (B w)) 5 Z) (Y (T (Q b 0 Z)) n1 c1)):=z.setCell (p:=(Q (A (B w)) 5 Z)) t _;have o:LBx W' (A (B w)) v0 v1 v2 v3 v4 (Y (T (Q g 0 Z)) n c):=h.bx.ab (i.block _ h.bx.lt (by simpa using λe=>C e.symm));have x:=h.rs.ab (i.block _ h.rs.lt (by simpa using λe=>ZR e.symm));have far:∀m,m≠A (B w)->(W'.setCell (Q (A (B w)) 5 Z) (Y (T (Q b 0 Z)) n1 c1)).heap[m]?=W'.heap[m]?:=λm r=>qh W' (Q (A (B w)) 5 Z) _ m (by simpa using r);refine⟨o.set5 _,x.ab (far _ (by omega)),h.rd.low u (by omega),dy D o (by decide) _,h.on.then (u.mono h2),λm r s l=>?_,?_,hn,h1,h2,t⟩
 ·refine(far m (by omega)).trans ((i.block m (by omega) ?_).trans (h.same m r s l));rcases h.gg with e|e;{simpa[e] using l}
  ·intro ZS;have:m=g:=by simpa using ZS
   omega
 {rcases y with e|e;{rw[e];exact h.gg};{exact .inr e}}
end
theorem pX (W:E)(r:Option Nat):W.grownBy W r:=⟨rfl,rfl,rfl,nX _,λ_ _ _=>rfl⟩
theorem FH{w0:E}{R p c:Nat}{v0 v1 v2 v3 v4:ZB}(q:Only R w0 w)(hR:R<A (B w0))(hb:A (B w0)<=base)(hbw:base<=A (B w))(m:Rd w R p)(l:w.ownsRow base 129 4 (Y (T (Q g 0 Z)) n c) n (bY f n))(b:∀j,j<n->(f j).e.size<=5000):LStD w0 w R base g v0 v1 v2 v3 v4 ((w.alloc (N #[v0,v1,v2,v3,v4,Y (T (Q g 0 Z)) n c] 46)).alloc (N #[U ⟨#[]⟩,J I 0,J I 0,U ⟨#[]⟩,Y Z 0 0,Y Z 0 0] 46)) p g n c f:=by
 have h:=(BS w).alloc ly (N #[v0,v1,v2,v3,v4,Y (T (Q g 0 Z)) n c] 46);have hz:(w.alloc (N #[v0,v1,v2,v3,v4,Y (T (Q g 0 Z)) n c] 46)).heap.size=A (B w)+1:=by simp
 have i:=(cM (w.alloc (N #[v0,v1,v2,v3,v4,Y (T (Q g 0 Z)) n c] 46)).heap.size (w.alloc (N #[v0,v1,v2,v3,v4,Y (T (Q g 0 Z)) n c] 46))).alloc ly (N #[U ⟨#[]⟩,J I 0,J I 0,U ⟨#[]⟩,Y Z 0 0,Y Z 0 0] 46);have ZR:=h.trans (i.mono h.size);have h2:=gM (w.alloc (N #[v0,v1,v2,v3,v4,Y (T (Q g 0 Z)) n c] 46)) (N #[U ⟨#[]⟩,J I 0,J I 0,U ⟨#[]⟩,Y Z 0 0,Y Z 0 0] 46);rw[hz] at h2;exact⟨(i.block (A (B w)) (by rw[hz];omega)).trans (gM w _),h2,m.aa ZR ly,own_below l ZR ly,q.trans (Only.q ZR),λk o _ _=>ZR.block k o,.inl rfl,b,hR,hb,hbw⟩
theorem LBx.six{W:E}{b:Nat}{u0 u1 u2 u3 u4 u5:ZB}(h:LBx W b u0 u1 u2 u3 u4 u5)(v0 v1 v2 v3 v4 v5:ZB):LBx ((((((W.setCell (Q b 0 Z) v0).setCell (Q b 1 Z) v1).setCell (Q b 2 Z) v2).setCell (Q b 3 Z) v3).setCell (Q b 4 Z) v4).setCell (Q b 5 Z) v5) b v0 v1 v2 v3 v4 v5:=by have f:W.heap[b]?=T (N #[u0,u1,u2,u3,u4,u5] 46 (0,0)):=h;show((((((W.setCell (Q b 0 Z) v0).setCell (Q b 1 Z) v1).setCell (Q b 2 Z) v2).setCell (Q b 3 Z) v3).setCell (Q b 4 Z) v4).setCell (Q b 5 Z) v5).heap[b]?=_;simp[World.setCell,LE,f]
theorem qX (W:E)(b m:Nat)(v0 v1 v2 v3 v4 v5:ZB)(f:m≠b):((((((W.setCell (Q b 0 Z) v0).setCell (Q b 1 Z) v1).setCell (Q b 2 Z) v2).setCell (Q b 3 Z) v3).setCell (Q b 4 Z) v4).setCell (Q b 5 Z) v5).heap[m]?=W.heap[m]?:=by have far:∀(V:E) (j:Nat) (u:ZB),(V.setCell (Q b j Z) u).heap[m]?=V.heap[m]?:=λV j u=>qh V (Q b j Z) u m (by simpa using f);rw[far,far,far,far,far,far]
theorem rW (W:E)(b ZS:Nat)(v0 v1 v2 v3 v4 v5:ZB)(f:ZS<=b):Below ZS W ((((((W.setCell (Q b 0 Z) v0).setCell (Q b 1 Z) v1).setCell (Q b 2 Z) v2).setCell (Q b 3 Z) v3).setCell (Q b 4 Z) v4).setCell (Q b 5 Z) v5) :=
 ((((((cM ZS W).setCell (p:=(Q b 0 Z)) f v0).setCell (p:=(Q b 1 Z)) f v1).setCell (p:=(Q b 2 Z)) f v2).setCell (p:=(Q b 3 Z)) f v3).setCell (p:=(Q b 4 Z)) f v4).setCell (p:=(Q b 5 Z)) f v5
def DL (ZN:Nat)(w0 w:E)(R base g0:Nat)(v0 v1 v2 v3 v4:ZB)(q:Nat)(e:Ending)(b:E):Prop:=∃(g n c:Nat) (f:Nat->Link),e=ZF (ZG #[v0,v1,v2,v3,v4,Y (T (Q g 0 Z)) n c])/\b.ownsRow base 129 4 (Y (T (Q g 0 Z)) n c) n (bY f n)/\n<=ZN+1/\(∀j,j<n->(f j).e.size<=5000)/\(∃q':Nat,q'<=q/\Rd b R q')/\Only R w0 b/\∀k,k<A (B w)->k≠R->k≠g0->b.heap[k]?=w.heap[k]?
theorem LStD.fin{ZN:Nat}{w0 W:E}{R g0 q c:Nat}{v0 v1 v2 v3 v4:ZB}(h:LStD w0 w R base g0 v0 v1 v2 v3 v4 W q g n c f)(hn:n<=ZN+1)(o:q<=ZM)(u0 u1 u2 u3 u4 u5:ZB):DL ZN w0 w R base g0 v0 v1 v2 v3 v4 ZM (ZF (ZG #[v0,v1,v2,v3,v4,Y (T (Q g 0 Z)) n c])) ((((((W.setCell (Q (A (B w)+1) 0 Z) u0).setCell (Q (A (B w)+1) 1 Z) u1).setCell (Q (A (B w)+1) 2 Z) u2).setCell (Q (A (B w)+1) 3 Z) u3).setCell (Q (A (B w)+1) 4 Z) u4).setCell (Q (A (B w)+1) 5 Z) u5):=by
 obtain⟨e1,m,e3,e4⟩:=h.gne;have h1:=h.hR;have h2:=h.hb;have h3:=h.hbw;have l:=rW W (A (B w)+1) base u0 u1 u2 u3 u4 u5 (by omega);refine⟨g,n,c,f,rfl,dP h.y λk b _=>qX _ _ _ _ _ _ _ _ _ ?_,hn,h.nm,⟨q,o,h.rd.low l (by omega)⟩,h.on.then (l.mono h2),λk b j i=>(qX _ _ _ _ _ _ _ _ _ (by omega)).trans (h.same k b j i)⟩;have:k=g:=by simpa[Value.ownBlock] using b.symm
 rw[this];exact m
variable {K:Nat}
def atD (x:au)(j:Nat)(z:Int):au:={ x with m:=λi=>if i=j then { x.m j with G:=z } else x.m i }
theorem FitK.G{x:au}(h:FitK K x)(b:j<x.f)(z:Int):FitK K (atD x j z):=by
 refine⟨h.nm,h.tx,h.an,h.asz,h.ln,λi hi=>?_⟩;show(if i=j then { x.m j with G:=z } else x.m i).e.size<=5000;split;{exact h.lsz j b};{exact h.lsz i hi}
theorem SpS.aq{W:E}{R q c f cl:Nat}(h:SpS K w R X W q a c D)(V:(D.map (·.2.2)).Pairwise Apt)(M:D[i]?=T r)(C:r.2.2=Y (T (Q f 0 Z)) r.1.f cl)(ZK:j<r.1.f)(z:Int):SpS K w R X (W.setCell (Q f (j*4+3) Z) (J I z)) q a c (D.set i (atD r.1 j z,r.2)):=by
 have y:=J2 M;have hlo:=h.lo;have hX:=h.hX;have hn:(D.set i (atD r.1 j z,r.2)).length=D.length:=KQ;obtain⟨cl2,zl,G⟩:=fD (h.row.sub r y).aq f (by rw[C];rfl);have ZI:A (B w)+2<=f:=((h.row.sub r y).aq.lt f (by rw[C];rfl)).1;have ZM:X≠f:=λe=>by have:=h.bx;rw[e,G] at this;simp at this
 have ZS:=(cM (A (B w)+2) W).setCell (p:=(Q f (j*4+3) Z)) ZI (J I z);have far:∀m,m≠f->(W.setCell (Q f (j*4+3) Z) (J I z)).heap[m]?=W.heap[m]?:=λm g=>qh _ _ _ _ g;have ZN:∀m e,OfTy W m e->e≠129->m≠f:=λm e n he t=>by obtain⟨c0,z0,l⟩:=n;rw[t,G] at l;simp at l;exact he l.2.1.symm
 have ZL:(D.set i (atD r.1 j z,r.2)).flatMap ddV=D.flatMap ddV:=by
  have e:∀(L:List DR) (i:Nat),L[i]?=T r->(L.set i (atD r.1 j z,r.2)).flatMap ddV=L.flatMap ddV:=by
   intro L;induction L with
   |nil=>intro i l;simp at l
   |cons x L ih =>
    intro i l;cases i with
    |zero =>
     obtain rfl:x=r:=by simpa using l
     rfl
    |succ i =>
     have h1:L[i]?=T r:=by simpa using l
     rw[Q2,LI,LI,ih i h1]
  exact e D i M
 refine⟨h.rd.low ZS (by omega),h.o.then (ZS.mono (by omega)),(ZS.block _ (by omega)).trans h.rs,?_,⟨?_,λs ZJ=>?_⟩,nE h.az ((h.az r y).G ZK z),h.lo,h.hX,by rw[hn];exact h.num⟩;{rw[hn];exact(far X ZM).trans h.bx};{rw[hn,ZL];exact dP h.row.y λm _ n=>far m (ZN m _ n (by decide))}
 ·obtain⟨k,hi⟩:=LZ ZJ;by_cases e:k=i;{subst e;rw[L8 (by rw[<-hn];exact(j5.1 hi).1)] at hi;obtain rfl:=IN hi;refine⟨dP (h.row.sub r y).u λm _ n=>far m (ZN m _ n (by decide)),?_⟩;have S:=(h.row.sub r y).aq;show World.ownsRow _ _ _ _ r.2.2 r.1.f (bY (atD r.1 j z).m r.1.f);rw[C] at S ⊢;exact xe S ZK (by omega) rfl}
  ·rw[NK (λt=>e t.symm)] at hi;have O:=J2 hi;refine(h.row.sub s O).far (λm _ n=>far m (ZN m _ n (by decide))) λm g _=>far m λt=>?_;obtain⟨ZP,ZQ⟩:=j5.1 hi;obtain⟨H,ZO⟩:=j5.1 M;have u:r.2.2.ownBlock=T f:=by rw[C];rfl
   have P:=LC.1 V;rcases UR e with ZR|ZR;{have b:=P k i (by simpa using ZP) (by simpa using H) ZR;rw[TJ,TJ,ZQ,ZO] at b;rcases b with b|b;{rw[g] at b;cases b};{exact b (by rw[g,u,t])}};{have b:=P i k (by simpa using H) (by simpa using ZP) ZR;rw[TJ,TJ,ZQ,ZO] at b;rcases b with b|b;{rw[u] at b;cases b};{exact b (by rw[g,u,t])}}
theorem DT (b:D[i]?=T r)(x:au):(D.set i (x,r.2)).map (·.2)=D.map (·.2):=by
 rw[List.map_set];refine QC λk=>?_;by_cases e:k=i;{subst e;rw[L8 (by rw[MP];exact(j5.1 b).1),KN,b];rfl};{rw[NK (λf=>e f.symm)]}
theorem SpS.aside{W:E}{R q c b:Nat}{u:Array ZB}{z:Nat × Nat}(h:SpS K w R X W q (T (Q g 0 Z)) c D)(hb:A (B w)+2<=b)(hX:b≠X)(p:b≠g)(hF:W.heap[b]?=T (N u 46 z))(v0 v1 v2 v3 v4 v5:ZB):SpS K w R X ((((((W.setCell (Q b 0 Z) v0).setCell (Q b 1 Z) v1).setCell (Q b 2 Z) v2).setCell (Q b 3 Z) v3).setCell (Q b 4 Z) v4).setCell (Q b 5 Z) v5) q (T (Q g 0 Z)) c D:=by
 have hlo:=h.lo;have ZS:=rW W b (A (B w)+2) v0 v1 v2 v3 v4 v5 hb;have far:=λm=>qX W b m v0 v1 v2 v3 v4 v5;have j:∀m e,OfTy W m e->e≠46->m≠b:=λm e f l n=>by obtain⟨c0,z0,i⟩:=f;rw[n,hF] at i;simp at i;exact l i.2.1.symm
 refine⟨h.rd.low ZS (by omega),h.o.then (ZS.mono (by omega)),(ZS.block _ (by omega)).trans h.rs,(far X (λe=>hX e.symm)).trans h.bx,⟨dP h.row.y λm r _=>?_,λs t=>(h.row.sub s t).far (λm _ f=>far m (j m _ f (by decide))) (λm _ f=>far m (j m _ f (by decide)))⟩,h.az,h.lo,h.hX,h.num⟩;obtain rfl:g=m:=by simpa[Value.ownBlock] using r
 exact far g λe=>p e.symm
def lO (nm tx:ByteArray)(kd:Int):DR:=({ fg with e:=nm,L:=kd,H:=tx },Y Z 0 0,Y Z 0 0)
theorem uQ{nm tx:ByteArray}(kd:Int)(h1:nm.size<=5000)(h2:tx.size<=2000+K):FitK K (lO nm tx kd).1:=⟨h1,h2,IH _,λj b=>absurd b (by simp[lO,fg]),IH _,λj b=>absurd b (by simp[lO,fg])⟩
theorem DU (w:E)(base:Nat)(nm tx:ByteArray)(kd:Int):DSub w base (lO nm tx kd):=⟨CL _ _ _ _,CL _ _ _ _⟩
theorem Gr (h:D.Pairwise λa b=>Apt a.2.1 b.2.1/\Apt a.2.2 b.2.2)(nm tx:ByteArray)(kd:Int):((lO nm tx kd::D).map (·.2.2)).Pairwise Apt:=by rw[PQ,List.pairwise_cons];exact⟨λx _=>.inl rfl,List.pairwise_map.2 (h.imp λh=>h.2)⟩
def Ew:Prop:=∀(m:Nat) (w:E),m<=61->Calls Tryz.prog 80 #[J I m] w λe b=>∃(a:Option Addr) (n c:Nat) (f:Nat->au),e=ZF (ZG #[Y a n c])/\HAc (A (B w)) b a n c f/\Below (A (B w)) w b/\n<=450/\∀i,i<n->FitK 0 (f i)
theorem SpS.other{W W':E}{R q c b:Nat}{f:Option Addr}{j:Nat->au}(h:SpS K w R X W q a c D)(m:Below (A (B W)) W W')(hH:HAc (A (B W)) W' f b g j)(hn:b<=450)(n:∀i,i<b->FitK 0 (j i))(r:q<=ZM):DAK K w R ZM (ZF (ZG #[Y f b g])) (W'.setCell (Q (A (B w)+1) 0 Z) (Y f b g)):=by
 have l:=h.aa m;have hl:=h.lo;have hx:=h.lt;have hX:=h.hX;have ZS:=(cM (A (B w)) W').setCell (p:=(Q (A (B w)+1) 0 Z)) (D0 _) (Y f b g);have s:Agr (A (B W)) W' (W'.setCell (Q (A (B w)+1) 0 Z) (Y f b g)):=⟨by simp,λk h1 _=>qh _ _ _ _ (by show k≠A (B w)+1;omega)⟩
 exact⟨f,b,g,j,rfl,(hH.agr s).mono (by omega),⟨q,r,l.rd.low ZS h.lo,l.o.then ZS⟩,by omega,λi hi=>(n i hi).up (IH _)⟩
