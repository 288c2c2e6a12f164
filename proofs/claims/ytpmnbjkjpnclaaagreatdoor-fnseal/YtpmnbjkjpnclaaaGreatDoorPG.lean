import Derived.Test.YtpmnbjkjpnclaaaGreatDoorPF
import Derived.Deep.AppendLies
set_option linter.unusedSimpArgs false
open Go renaming Addr.mk->Q,Value.slice->Z,Value.string->Y,Value.int->J,Obj.cells->N,IntKind.i64->I,World->M,Value->ZC,Ending.returned->ZF
open Option renaming none->U,some->T
namespace Go.Proofs.YtpmnbjkjpnclaaaGreatDoor.Vp
open RowKit Ca
variable {w W w0:M}{c g base n j R b q X ZM i:Nat}{D:List DR}{f:Nat->Link}{u v0 v1 v2 v3 v4:ZC}{y:Link}{a:Option Addr}{r:DR}
def LBx (W:M)(b:Nat)(v0 v1 v2 v3 v4 v5:ZC):Prop:=W.heap[b]?=T (N #[v0,v1,v2,v3,v4,v5] 46 (0,0))
section
variable {W W':M}{b:Nat}{v0 v1 v2 v3 v4 v5:ZC}
theorem LBx.lt (h:LBx W b v0 v1 v2 v3 v4 v5):b<W.heap.size:=ag h
theorem LBx.cells (h:LBx W b v0 v1 v2 v3 v4 v5):W.cell? (Q b 0 U)=T v0/\W.cell? (Q b 1 U)=T v1/\W.cell? (Q b 2 U)=T v2/\W.cell? (Q b 3 U)=T v3/\W.cell? (Q b 4 U)=T v4/\W.cell? (Q b 5 U)=T v5:=by have c:W.heap[b]?=T (N #[v0,v1,v2,v3,v4,v5] 46 (0,0)):=h;refine⟨?_,?_,?_,?_,?_,?_⟩<;>simp[World.cell?,c]
theorem LBx.fz (h:LBx W b v0 v1 v2 v3 v4 v5)(j:Nat):W.frozen? (Q b j U)=false:=by have c:W.heap[b]?=T (N #[v0,v1,v2,v3,v4,v5] 46 (0,0)):=h;simp[World.frozen?,c]
theorem LBx.ab (h:LBx W b v0 v1 v2 v3 v4 v5)(e:W'.heap[b]?=W.heap[b]?):LBx W' b v0 v1 v2 v3 v4 v5:=e.trans h
theorem LBx.set5 (h:LBx W b v0 v1 v2 v3 v4 v5)(u:ZC):LBx (W.setCell (Q b 5 U) u) b v0 v1 v2 v3 v4 u:=by have c:W.heap[b]?=T (N #[v0,v1,v2,v3,v4,v5] 46 (0,0)):=h;show(W.setCell (Q b 5 U) u).heap[b]?=_;simp[World.setCell,CP,c]
end
theorem Dc{b:Type}(f:Nat->b)(n k:Nat)(y:b):((List.range n).map f).set k y=(List.range n).map (λi=>if i=k then y else f i):=by
 refine TW λi=>?_;rw[List.getElem?_set,NZ,NZ];by_cases hi:i<n;{by_cases e:k=i;{subst e;simp[hi]};{have c:¬ i=k:=λh=>e h.symm;simp[hi,e,c]}};{by_cases e:k=i;{subst e;simp[hi]};{simp[hi,e]}}
theorem yB{k:Nat}(h:w.ownsRow base 91 4 (Z (T (Q g 0 U)) n c) n (bq f n))(m:k<n)(o:j<4)(l:cQ y=(cQ (f k)).set j u):(w.setCell (Q g (k*4+j) U) u).ownsRow base 91 4 (Z (T (Q g 0 U)) n c) n (bq (λi=>if i=k then y else f i) n):=by have b:=nC (j:=k*4+j) h u;have e:=kL cQ 4 (λ_=>rfl) o l ((List.range n).map f) k (by simp[m]);rw[Dc] at e;unfold bq at b ⊢;rw[e] at b;exact b
theorem cX{k:Nat}(h:w.ownsRow base 91 4 (Z (T (Q g 0 U)) n c) n (bq f n))(b:k<n)(l:j<4)(i:(cQ (f k))[j]?=T u):w.cell? (Q g (k*4+j) U)=T u/\w.frozen? (Q g (k*4+j) U)=false :=
 cP h (j:=k*4+j) (by rw[jR f b j l];exact i)
theorem It{size:Nat}{e:TypeId}{j:List ZC}(h:w.ownsRow base e size (Z (T (Q g 0 U)) n c) n j):base<=g/\∃i,w.heap[g]?=T (N i e (0,0)):=by
 rcases h.2 with ⟨b,_⟩|⟨g',cap,cur,b,hb,f,_⟩
 {cases b}
 ·cases b
  exact⟨hb,_,f⟩
structure LStD (w0 w:M)(R base g0:Nat)(v0 v1 v2 v3 v4:ZC)(W:M)(q g n c:Nat)(f:Nat->Link):Prop where
 bx:LBx W w.heap.size v0 v1 v2 v3 v4 (Z (T (Q g 0 U)) n c)
 rs:LBx W (w.heap.size+1) (Y ⟨#[]⟩) (J I 0) (J I 0) (Y ⟨#[]⟩) (Z U 0 0) (Z U 0 0)
 rd:Rd W R q
 i:W.ownsRow base 91 4 (Z (T (Q g 0 U)) n c) n (bq f n)
 on:Only R w0 W
 same:∀k,k<w.heap.size->k≠R->k≠g0->W.heap[k]?=w.heap[k]?
 gg:g=g0∨w.heap.size<=g
 nm:∀j,j<n->(f j).e.size<=5000
 hR:R<w0.heap.size
 hb:w0.heap.size<=base
 hbw:base<=w.heap.size
section
variable {w0 w W W':M}{R base g0 q q' g n c:Nat}{v0 v1 v2 v3 v4:ZC}{f:Nat->Link}
theorem LStD.lt (h:LStD w0 w R base g0 v0 v1 v2 v3 v4 W q g n c f):w.heap.size+2<=W.heap.size:=h.rs.lt
theorem LStD.F (h:LStD w0 w R base g0 v0 v1 v2 v3 v4 W q g n c f)(b:Only R W W')(l:Rd W' R q'):LStD w0 w R base g0 v0 v1 v2 v3 v4 W' q' g n c f:=by have h1:=h.hR;have h2:=h.hb;have h3:=h.hbw;have h4:=h.lt;exact⟨h.bx.ab (b.block _ h.bx.lt (by omega)),h.rs.ab (b.block _ h.rs.lt (by omega)),l,gw h.i b (by omega),h.on.trans b,λk m i j=>(b.block k (by omega) i).trans (h.same k m i j),h.gg,h.nm,h1,h2,h3⟩
theorem LStD.aa (h:LStD w0 w R base g0 v0 v1 v2 v3 v4 W q g n c f)(b:Below W.heap.size W W'):LStD w0 w R base g0 v0 v1 v2 v3 v4 W' q g n c f:=h.F (Only.u b) (h.rd.aa b ly)
theorem LStD.gne (h:LStD w0 w R base g0 v0 v1 v2 v3 v4 W q g n c f):g≠w.heap.size/\g≠w.heap.size+1/\base<=g/\g<W.heap.size:=by
 obtain⟨hb,cs,b⟩:=It h.i;refine⟨λe=>?_,λe=>?_,hb,ag b⟩;{have:=h.bx;unfold LBx at this;rw[<-e,b] at this;cases this};{have:=h.rs;unfold LBx at this;rw[<-e,b] at this;cases this}
theorem LStD.setL{k:Nat}(h:LStD w0 w R base g0 v0 v1 v2 v3 v4 W q g n c f)(C:k<n)(z:j<4)(s:cQ y=(cQ (f k)).set j u)(B:y.e.size<=5000):LStD w0 w R base g0 v0 v1 v2 v3 v4 (W.setCell (Q g (k*4+j) U) u) q g n c (λi=>if i=k then y else f i):=by
 obtain⟨x,A,t,e4⟩:=h.gne;have h1:=h.hR;have h2:=h.hb;have r:Below base W (W.setCell (Q g (k*4+j) U) u):=br.setCell (p:=(Q g (k*4+j) U)) t u;have far:∀m,m≠g->(W.setCell (Q g (k*4+j) U) u).heap[m]?=W.heap[m]?:=λm l=>qh W (Q g (k*4+j) U) u m (by simpa using l);refine⟨h.bx.ab (far _ (λe=>x e.symm)),h.rs.ab (far _ (λe=>A e.symm)),h.rd.low r (by omega),yB h.i C z s,h.on.then (r.mono h2),λm l o b=>(far m ?_).trans (h.same m l o b),h.gg,λi hi=>?_,h1,h2,h.hbw⟩;{rcases h.gg with e|e;{rw[e];exact b};{omega}};{show(if i=k then y else f i).e.size<=5000;split;{exact B};{exact h.nm i hi}}
theorem LStD.setB{n1 c1:Nat}{f1:Nat->Link}(h:LStD w0 w R base g0 v0 v1 v2 v3 v4 W q g n c f)(i:W.grownBy W' (T g))(A:W'.ownsRow base 91 4 (Z (T (Q b 0 U)) n1 c1) n1 (bq f1 n1))(C:b=g∨w.heap.size<=b)(hn:∀j,j<n1->(f1 j).e.size<=5000):LStD w0 w R base g0 v0 v1 v2 v3 v4 (W'.setCell (Q w.heap.size 5 U) (Z (T (Q b 0 U)) n1 c1)) q b n1 c1 f1:=by
 obtain⟨y,B,x,e4⟩:=h.gne;have h1:=h.hR;have h2:=h.hb;have h3:=h.hbw;have h4:=h.lt;have hw0:=h.on.size;have D:Below base W W':=bg br i (by omega) (λj e=>by cases e;exact x);have s:Below base W (W'.setCell (Q w.heap.size 5 U) (Z (T (Q b 0 U)) n1 c1)):=D.setCell (p:=(Q w.heap.size 5 U)) h3 _;have l:LBx W' w.heap.size v0 v1 v2 v3 v4 (Z (T (Q g 0 U)) n c):=h.bx.ab (i.block _ h.bx.lt (by simpa using λe=>y e.symm));have u:=h.rs.ab (i.block _ h.rs.lt (by simpa using λe=>B e.symm));have far:∀m,m≠w.heap.size->(W'.setCell (Q w.heap.size 5 U) (Z (T (Q b 0 U)) n1 c1)).heap[m]?=W'.heap[m]?:=λm r=>qh W' (Q w.heap.size 5 U) _ m (by simpa using r);refine⟨l.set5 _,u.ab (far _ (by omega)),h.rd.low s (by omega),ip A l (by decide) _,h.on.then (s.mono h2),λm r t o=>?_,?_,hn,h1,h2,h3⟩
 ·refine(far m (by omega)).trans ((i.block m (by omega) ?_).trans (h.same m r t o));rcases h.gg with e|e;{simpa[e] using o}
  ·intro z;have:m=g:=by simpa using z
   omega
 {rcases C with e|e;{rw[e];exact h.gg};{exact .inr e}}
end
theorem qE (W:M)(r:Option Nat):W.grownBy W r:=⟨rfl,rfl,rfl,n6 _,λ_ _ _=>rfl⟩
theorem Iu{p:Nat}(o:Only R w0 w)(hR:R<w0.heap.size)(hb:w0.heap.size<=base)(hbw:base<=w.heap.size)(m:Rd w R p)(b:w.ownsRow base 91 4 (Z (T (Q g 0 U)) n c) n (bq f n))(l:∀j,j<n->(f j).e.size<=5000):LStD w0 w R base g v0 v1 v2 v3 v4 ((w.alloc (N #[v0,v1,v2,v3,v4,Z (T (Q g 0 U)) n c] 46)).alloc (N #[Y ⟨#[]⟩,J I 0,J I 0,Y ⟨#[]⟩,Z U 0 0,Z U 0 0] 46)) p g n c f:=by
 have h:=(q9 w).alloc ly (N #[v0,v1,v2,v3,v4,Z (T (Q g 0 U)) n c] 46);have hz:(w.alloc (N #[v0,v1,v2,v3,v4,Z (T (Q g 0 U)) n c] 46)).heap.size=w.heap.size+1:=by simp
 have i:=(dB (w.alloc (N #[v0,v1,v2,v3,v4,Z (T (Q g 0 U)) n c] 46)).heap.size (w.alloc (N #[v0,v1,v2,v3,v4,Z (T (Q g 0 U)) n c] 46))).alloc ly (N #[Y ⟨#[]⟩,J I 0,J I 0,Y ⟨#[]⟩,Z U 0 0,Z U 0 0] 46);have A:=h.trans (i.mono h.size);have h2:=nL (w.alloc (N #[v0,v1,v2,v3,v4,Z (T (Q g 0 U)) n c] 46)) (N #[Y ⟨#[]⟩,J I 0,J I 0,Y ⟨#[]⟩,Z U 0 0,Z U 0 0] 46);rw[hz] at h2;exact⟨(i.block w.heap.size (by rw[hz];omega)).trans (nL w _),h2,m.aa A ly,own_below b A ly,o.trans (Only.u A),λk q _ _=>A.block k q,.inl rfl,l,hR,hb,hbw⟩
theorem LBx.six{u0 u1 u2 u3 u4 u5:ZC}(h:LBx W b u0 u1 u2 u3 u4 u5)(v0 v1 v2 v3 v4 v5:ZC):LBx ((((((W.setCell (Q b 0 U) v0).setCell (Q b 1 U) v1).setCell (Q b 2 U) v2).setCell (Q b 3 U) v3).setCell (Q b 4 U) v4).setCell (Q b 5 U) v5) b v0 v1 v2 v3 v4 v5:=by have c:W.heap[b]?=T (N #[u0,u1,u2,u3,u4,u5] 46 (0,0)):=h;show((((((W.setCell (Q b 0 U) v0).setCell (Q b 1 U) v1).setCell (Q b 2 U) v2).setCell (Q b 3 U) v3).setCell (Q b 4 U) v4).setCell (Q b 5 U) v5).heap[b]?=_;simp[World.setCell,CP,c]
theorem rK (W:M)(b m:Nat)(v0 v1 v2 v3 v4 v5:ZC)(c:m≠b):((((((W.setCell (Q b 0 U) v0).setCell (Q b 1 U) v1).setCell (Q b 2 U) v2).setCell (Q b 3 U) v3).setCell (Q b 4 U) v4).setCell (Q b 5 U) v5).heap[m]?=W.heap[m]?:=by have far:∀(V:M) (j:Nat) (u:ZC),(V.setCell (Q b j U) u).heap[m]?=V.heap[m]?:=λV j u=>qh V (Q b j U) u m (by simpa using c);rw[far,far,far,far,far,far]
theorem sV (W:M)(b B:Nat)(v0 v1 v2 v3 v4 v5:ZC)(c:B<=b):Below B W ((((((W.setCell (Q b 0 U) v0).setCell (Q b 1 U) v1).setCell (Q b 2 U) v2).setCell (Q b 3 U) v3).setCell (Q b 4 U) v4).setCell (Q b 5 U) v5) :=
 ((((((dB B W).setCell (p:=(Q b 0 U)) c v0).setCell (p:=(Q b 1 U)) c v1).setCell (p:=(Q b 2 U)) c v2).setCell (p:=(Q b 3 U)) c v3).setCell (p:=(Q b 4 U)) c v4).setCell (p:=(Q b 5 U)) c v5
def DL (ZO:Nat)(w0 w:M)(R base g0:Nat)(v0 v1 v2 v3 v4:ZC)(q:Nat)(e:Ending)(b:M):Prop:=∃(g n c:Nat) (f:Nat->Link),e=ZF (.agg #[v0,v1,v2,v3,v4,Z (T (Q g 0 U)) n c])/\b.ownsRow base 91 4 (Z (T (Q g 0 U)) n c) n (bq f n)/\n<=ZO+1/\(∀j,j<n->(f j).e.size<=5000)/\(∃q':Nat,q'<=q/\Rd b R q')/\Only R w0 b/\∀k,k<w.heap.size->k≠R->k≠g0->b.heap[k]?=w.heap[k]?
theorem LStD.fin{ZO:Nat}{g0:Nat}(h:LStD w0 w R base g0 v0 v1 v2 v3 v4 W q g n c f)(hn:n<=ZO+1)(m:q<=ZM)(u0 u1 u2 u3 u4 u5:ZC):DL ZO w0 w R base g0 v0 v1 v2 v3 v4 ZM (ZF (.agg #[v0,v1,v2,v3,v4,Z (T (Q g 0 U)) n c])) ((((((W.setCell (Q (w.heap.size+1) 0 U) u0).setCell (Q (w.heap.size+1) 1 U) u1).setCell (Q (w.heap.size+1) 2 U) u2).setCell (Q (w.heap.size+1) 3 U) u3).setCell (Q (w.heap.size+1) 4 U) u4).setCell (Q (w.heap.size+1) 5 U) u5):=by
 obtain⟨e1,o,e3,e4⟩:=h.gne;have h1:=h.hR;have h2:=h.hb;have h3:=h.hbw;have l:=sV W (w.heap.size+1) base u0 u1 u2 u3 u4 u5 (by omega);refine⟨g,n,c,f,rfl,bD h.i λk b _=>rK _ _ _ _ _ _ _ _ _ ?_,hn,h.nm,⟨q,m,h.rd.low l (by omega)⟩,h.on.then (l.mono h2),λk b j i=>(rK _ _ _ _ _ _ _ _ _ (by omega)).trans (h.same k b j i)⟩;have:k=g:=by simpa[Value.ownBlock] using b.symm
 rw[this];exact o
variable {K:Nat}
def atD (x:Deed)(j:Nat)(z:Int):Deed:={ x with D:=λi=>if i=j then { x.D j with L:=z } else x.D i }
theorem FitK.L{x:Deed}(h:FitK K x)(b:j<x.b)(z:Int):FitK K (atD x j z):=by
 refine⟨h.nm,h.tx,h.an,h.asz,h.ln,λi hi=>?_⟩;show(if i=j then { x.D j with L:=z } else x.D i).e.size<=5000;split;{exact h.lsz j b};{exact h.lsz i hi}
theorem SpS.V{f cl:Nat}(h:SpS K w R X W q a c D)(P:(D.map (·.2.2)).Pairwise Apt)(ZN:D[i]?=T r)(C:r.2.2=Z (T (Q f 0 U)) r.1.b cl)(O:j<r.1.b)(z:Int):SpS K w R X (W.setCell (Q f (j*4+3) U) (J I z)) q a c (D.set i (atD r.1 j z,r.2)):=by
 have A:=LB ZN;have hlo:=h.lo;have hX:=h.hX;have hn:(D.set i (atD r.1 j z,r.2)).length=D.length:=KK;obtain⟨cl2,zl,G⟩:=bu (h.row.sub r A).V f (by rw[C];rfl);have ZL:w.heap.size+2<=f:=((h.row.sub r A).V.lt f (by rw[C];rfl)).1;have ZJ:X≠f:=λe=>by have:=h.bx;rw[e,G] at this;simp at this
 have B:=(dB (w.heap.size+2) W).setCell (p:=(Q f (j*4+3) U)) ZL (J I z);have far:∀m,m≠f->(W.setCell (Q f (j*4+3) U) (J I z)).heap[m]?=W.heap[m]?:=λm l=>qh _ _ _ _ l;have ZQ:∀m e,OfTy W m e->e≠91->m≠f:=λm e n ZI t=>by obtain⟨c0,z0,g⟩:=n;rw[t,G] at g;simp at g;exact ZI g.2.1.symm
 have ZO:(D.set i (atD r.1 j z,r.2)).flatMap ddV=D.flatMap ddV:=by
  have e:∀(L:List DR) (i:Nat),L[i]?=T r->(L.set i (atD r.1 j z,r.2)).flatMap ddV=L.flatMap ddV:=by
   intro L;induction L with
   |nil=>intro i g;simp at g
   |cons x L ZK =>
    intro i g;cases i with
    |zero =>
     obtain rfl:x=r:=by simpa using g
     rfl
    |succ i =>
     have h1:L[i]?=T r:=by simpa using g
     rw[UU,J2,J2,ZK i h1]
  exact e D i ZN
 refine⟨h.rd.low B (by omega),h.o.then (B.mono (by omega)),(B.block _ (by omega)).trans h.rs,?_,⟨?_,λs hs=>?_⟩,lF h.ad ((h.ad r A).L O z),h.lo,h.hX,by rw[hn];exact h.num⟩;{rw[hn];exact(far X ZJ).trans h.bx};{rw[hn,ZO];exact bD h.row.i λm _ n=>far m (ZQ m _ n (by decide))}
 ·obtain⟨k,hi⟩:=Q9 hs;by_cases e:k=i;{subst e;rw[PU (by rw[<-hn];exact(n8.1 hi).1)] at hi;obtain rfl:=BC hi;refine⟨bD (h.row.sub r A).H λm _ n=>far m (ZQ m _ n (by decide)),?_⟩;have ZM:=(h.row.sub r A).V;show World.ownsRow _ _ _ _ r.2.2 r.1.b (bq (atD r.1 j z).D r.1.b);rw[C] at ZM ⊢;exact yB ZM O (by omega) rfl}
  ·rw[QK (λt=>e t.symm)] at hi;have V:=LB hi;refine(h.row.sub s V).far (λm _ n=>far m (ZQ m _ n (by decide))) λm l _=>far m λt=>?_;obtain⟨E,ZP⟩:=n8.1 hi;obtain⟨F,H⟩:=n8.1 ZN;have u:r.2.2.ownBlock=T f:=by rw[C];rfl
   have S:=PO.1 P;rcases Nat.lt_or_gt_of_ne e with y|y;{have b:=S k i (by simpa using E) (by simpa using F) y;rw[VQ,VQ,ZP,H] at b;rcases b with b|b;{rw[l] at b;cases b};{exact b (by rw[l,u,t])}};{have b:=S i k (by simpa using F) (by simpa using E) y;rw[VQ,VQ,ZP,H] at b;rcases b with b|b;{rw[u] at b;cases b};{exact b (by rw[l,u,t])}}
theorem FK (b:D[i]?=T r)(x:Deed):(D.set i (x,r.2)).map (·.2)=D.map (·.2):=by
 rw[List.map_set];refine TW λk=>?_;by_cases e:k=i;{subst e;rw[PU (by rw[QX];exact(n8.1 b).1),NZ,b];rfl};{rw[QK (λc=>e c.symm)]}
theorem SpS.aside{u:Array ZC}{z:Nat × Nat}(h:SpS K w R X W q (T (Q g 0 U)) c D)(hb:w.heap.size+2<=b)(hX:b≠X)(n:b≠g)(hF:W.heap[b]?=T (N u 46 z))(v0 v1 v2 v3 v4 v5:ZC):SpS K w R X ((((((W.setCell (Q b 0 U) v0).setCell (Q b 1 U) v1).setCell (Q b 2 U) v2).setCell (Q b 3 U) v3).setCell (Q b 4 U) v4).setCell (Q b 5 U) v5) q (T (Q g 0 U)) c D:=by
 have hlo:=h.lo;have B:=sV W b (w.heap.size+2) v0 v1 v2 v3 v4 v5 hb;have far:=λm=>rK W b m v0 v1 v2 v3 v4 v5;have j:∀m e,OfTy W m e->e≠46->m≠b:=λm e f l r=>by obtain⟨c0,z0,i⟩:=f;rw[r,hF] at i;simp at i;exact l i.2.1.symm
 refine⟨h.rd.low B (by omega),h.o.then (B.mono (by omega)),(B.block _ (by omega)).trans h.rs,(far X (λe=>hX e.symm)).trans h.bx,⟨bD h.row.i λm t _=>?_,λs p=>(h.row.sub s p).far (λm _ f=>far m (j m _ f (by decide))) (λm _ f=>far m (j m _ f (by decide)))⟩,h.ad,h.lo,h.hX,h.num⟩;obtain rfl:g=m:=by simpa[Value.ownBlock] using t
 exact far g λe=>n e.symm
def jD (nm tx:ByteArray)(kd:Int):DR:=({ fA with e:=nm,m:=kd,B:=tx },Z U 0 0,Z U 0 0)
theorem pz{nm tx:ByteArray}(kd:Int)(h1:nm.size<=5000)(h2:tx.size<=2000+K):FitK K (jD nm tx kd).1:=⟨h1,h2,E4 _,λj b=>absurd b (by simp[jD,fA]),E4 _,λj b=>absurd b (by simp[jD,fA])⟩
theorem vK (w:M)(base:Nat)(nm tx:ByteArray)(kd:Int):DSub w base (jD nm tx kd):=⟨A9 _ _ _ _,A9 _ _ _ _⟩
theorem JB (h:D.Pairwise λa b=>Apt a.2.1 b.2.1/\Apt a.2.2 b.2.2)(nm tx:ByteArray)(kd:Int):((jD nm tx kd::D).map (·.2.2)).Pairwise Apt:=by rw[PM,List.pairwise_cons];exact⟨λx _=>.inl rfl,List.pairwise_map.2 (h.imp λh=>h.2)⟩
def Gz:Prop:=∀(m:Nat) (w:M),m<=61->Calls Tryz.prog 123 #[J I m] w λe b=>∃(a:Option Addr) (n c:Nat) (f:Nat->Deed),e=ZF (.agg #[Z a n c])/\HAc w.heap.size b a n c f/\Below w.heap.size w b/\n<=450/\∀i,i<n->FitK 0 (f i)
theorem SpS.other{W':M}{f:Nat}{g:Option Addr}{j:Nat->Deed}(h:SpS K w R X W q a c D)(s:Below W.heap.size W W')(hH:HAc W.heap.size W' g b f j)(hn:b<=450)(m:∀i,i<b->FitK 0 (j i))(r:q<=ZM):DAK K w R ZM (ZF (.agg #[Z g b f])) (W'.setCell (Q (w.heap.size+1) 0 U) (Z g b f)):=by
 have l:=h.aa s;have hl:=h.lo;have hx:=h.lt;have hX:=h.hX;have B:=(dB w.heap.size W').setCell (p:=(Q (w.heap.size+1) 0 U)) (F6 _) (Z g b f);have n:Agr W.heap.size W' (W'.setCell (Q (w.heap.size+1) 0 U) (Z g b f)):=⟨by simp,λk h1 _=>qh _ _ _ _ (by show k≠w.heap.size+1;omega)⟩
 exact⟨g,b,f,j,rfl,(hH.agr n).mono (by omega),⟨q,r,l.rd.low B h.lo,l.o.then B⟩,by omega,λi hi=>(m i hi).up (E4 _)⟩
