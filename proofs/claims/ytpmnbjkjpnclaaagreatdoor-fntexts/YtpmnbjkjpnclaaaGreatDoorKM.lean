import Derived.Test.YtpmnbjkjpnclaaaGreatDoorKL
import Derived.Deep.AppendLies
set_option linter.unusedSimpArgs false
open Go renaming Addr.mk->N,Value.slice->Y,Value.string->U,Value.int->Q,Value.agg->ZG,Obj.cells->J,IntKind.i64->I,World->M,Value->ZB,Ending.returned->ZD,World.heap->B
open Option renaming none->Z,some->T
open Array renaming size->A
namespace Go.Proofs.YtpmnbjkjpnclaaaGreatDoor.Vp
open RowKit Ca
variable {w W w0:M}{g base n j R b q X ZN i:Nat}{D:List DR}{f:Nat->Link}{u v0 v1 v2 v3 v4:ZB}{y:Link}{a:Option Addr}{r:DR}
def LBx (W:M)(b:Nat)(v0 v1 v2 v3 v4 v5:ZB):Prop:=W.heap[b]?=T (J #[v0,v1,v2,v3,v4,v5] 46 (0,0))
section
variable {W W':M}{b:Nat}{v0 v1 v2 v3 v4 v5:ZB}
theorem LBx.lt (h:LBx W b v0 v1 v2 v3 v4 v5):b<A (B W):=ar h
theorem LBx.cells (h:LBx W b v0 v1 v2 v3 v4 v5):W.cell? (N b 0 Z)=T v0/\W.cell? (N b 1 Z)=T v1/\W.cell? (N b 2 Z)=T v2/\W.cell? (N b 3 Z)=T v3/\W.cell? (N b 4 Z)=T v4/\W.cell? (N b 5 Z)=T v5:=by have f:W.heap[b]?=T (J #[v0,v1,v2,v3,v4,v5] 46 (0,0)):=h;refine⟨?_,?_,?_,?_,?_,?_⟩<;>simp[World.cell?,f]
theorem LBx.fz (h:LBx W b v0 v1 v2 v3 v4 v5)(j:Nat):W.frozen? (N b j Z)=false:=by have f:W.heap[b]?=T (J #[v0,v1,v2,v3,v4,v5] 46 (0,0)):=h;simp[World.frozen?,f]
theorem LBx.ad (h:LBx W b v0 v1 v2 v3 v4 v5)(e:W'.heap[b]?=W.heap[b]?):LBx W' b v0 v1 v2 v3 v4 v5:=e.trans h
theorem LBx.set5 (h:LBx W b v0 v1 v2 v3 v4 v5)(u:ZB):LBx (W.setCell (N b 5 Z) u) b v0 v1 v2 v3 v4 u:=by have f:W.heap[b]?=T (J #[v0,v1,v2,v3,v4,v5] 46 (0,0)):=h;show(W.setCell (N b 5 Z) u).heap[b]?=_;simp[World.setCell,JV,f]
end
theorem yW{b:Type}(f:Nat->b)(n k:Nat)(y:b):((List.range n).map f).set k y=(List.range n).map (λi=>if i=k then y else f i):=by
 refine NY λi=>?_;rw[List.getElem?_set,JM,JM];by_cases hi:i<n;{by_cases e:k=i;{subst e;simp[hi]};{have g:¬ i=k:=λh=>e h.symm;simp[hi,e,g]}};{by_cases e:k=i;{subst e;simp[hi]};{simp[hi,e]}}
theorem vv{c k:Nat}(h:w.ownsRow base 91 4 (Y (T (N g 0 Z)) n c) n (bQ f n))(m:k<n)(l:j<4)(o:dv y=(dv (f k)).set j u):(w.setCell (N g (k*4+j) Z) u).ownsRow base 91 4 (Y (T (N g 0 Z)) n c) n (bQ (λi=>if i=k then y else f i) n):=by have b:=fG (j:=k*4+j) h u;have e:=jg dv 4 (λ_=>rfl) l o ((List.range n).map f) k (by simp[m]);rw[yW] at e;unfold bQ at b ⊢;rw[e] at b;exact b
theorem cC{c k:Nat}(h:w.ownsRow base 91 4 (Y (T (N g 0 Z)) n c) n (bQ f n))(i:k<n)(b:j<4)(l:(dv (f k))[j]?=T u):w.cell? (N g (k*4+j) Z)=T u/\w.frozen? (N g (k*4+j) Z)=false :=
 aV h (j:=k*4+j) (by rw[iL f i j b];exact l)
theorem DZ{size c:Nat}{e:TypeId}{j:List ZB}(h:w.ownsRow base e size (Y (T (N g 0 Z)) n c) n j):base<=g/\∃i,w.heap[g]?=T (J i e (0,0)):=by
 rcases h.2 with ⟨b,_⟩|⟨g',cap,cur,b,hb,f,_⟩
 {cases b}
 ·cases b
  exact⟨hb,_,f⟩
structure LStD (w0 w:M)(R base g0:Nat)(v0 v1 v2 v3 v4:ZB)(W:M)(q g n c:Nat)(f:Nat->Link):Prop where
 bx:LBx W (A (B w)) v0 v1 v2 v3 v4 (Y (T (N g 0 Z)) n c)
 rs:LBx W (A (B w)+1) (U ⟨#[]⟩) (Q I 0) (Q I 0) (U ⟨#[]⟩) (Y Z 0 0) (Y Z 0 0)
 rd:Rd W R q
 x:W.ownsRow base 91 4 (Y (T (N g 0 Z)) n c) n (bQ f n)
 on:Only R w0 W
 same:∀k,k<A (B w)->k≠R->k≠g0->W.heap[k]?=w.heap[k]?
 gg:g=g0∨(A (B w))<=g
 nm:∀j,j<n->(f j).e.size<=5000
 hR:R<A (B w0)
 hb:A (B w0)<=base
 hbw:base<=A (B w)
section
variable {w0 w W W':M}{R base g0 q q' g n c:Nat}{v0 v1 v2 v3 v4:ZB}{f:Nat->Link}
theorem LStD.lt (h:LStD w0 w R base g0 v0 v1 v2 v3 v4 W q g n c f):A (B w)+2<=A (B W):=h.rs.lt
theorem LStD.ac (h:LStD w0 w R base g0 v0 v1 v2 v3 v4 W q g n c f)(b:Only R W W')(m:Rd W' R q'):LStD w0 w R base g0 v0 v1 v2 v3 v4 W' q' g n c f:=by have h1:=h.hR;have h2:=h.hb;have o:=h.hbw;have h4:=h.lt;exact⟨h.bx.ad (b.block _ h.bx.lt (by omega)),h.rs.ad (b.block _ h.rs.lt (by omega)),m,fs h.x b (by omega),h.on.trans b,λk l i j=>(b.block k (by omega) i).trans (h.same k l i j),h.gg,h.nm,h1,h2,o⟩
theorem LStD.aa (h:LStD w0 w R base g0 v0 v1 v2 v3 v4 W q g n c f)(b:Below (A (B W)) W W'):LStD w0 w R base g0 v0 v1 v2 v3 v4 W' q g n c f:=h.ac (Only.q b) (h.rd.aa b ly)
theorem LStD.gne (h:LStD w0 w R base g0 v0 v1 v2 v3 v4 W q g n c f):g≠A (B w)/\g≠A (B w)+1/\base<=g/\g<A (B W):=by
 obtain⟨hb,cs,b⟩:=DZ h.x;refine⟨λe=>?_,λe=>?_,hb,ar b⟩;{have:=h.bx;unfold LBx at this;rw[<-e,b] at this;cases this};{have:=h.rs;unfold LBx at this;rw[<-e,b] at this;cases this}
theorem LStD.setL{k:Nat}(h:LStD w0 w R base g0 v0 v1 v2 v3 v4 W q g n c f)(s:k<n)(z:j<4)(x:dv y=(dv (f k)).set j u)(ZR:y.e.size<=5000):LStD w0 w R base g0 v0 v1 v2 v3 v4 (W.setCell (N g (k*4+j) Z) u) q g n c (λi=>if i=k then y else f i):=by
 obtain⟨t,C,ZS,e4⟩:=h.gne;have h1:=h.hR;have h2:=h.hb;have r:Below base W (W.setCell (N g (k*4+j) Z) u):=br.setCell (p:=(N g (k*4+j) Z)) ZS u;have far:∀m,m≠g->(W.setCell (N g (k*4+j) Z) u).heap[m]?=W.heap[m]?:=λm l=>qh W (N g (k*4+j) Z) u m (by simpa using l);refine⟨h.bx.ad (far _ (λe=>t e.symm)),h.rs.ad (far _ (λe=>C e.symm)),h.rd.low r (by omega),vv h.x s z x,h.on.then (r.mono h2),λm l o b=>(far m ?_).trans (h.same m l o b),h.gg,λi hi=>?_,h1,h2,h.hbw⟩;{rcases h.gg with e|e;{rw[e];exact b};{omega}};{show(if i=k then y else f i).e.size<=5000;split;{exact ZR};{exact h.nm i hi}}
theorem LStD.setB{n1 c1:Nat}{f1:Nat->Link}(h:LStD w0 w R base g0 v0 v1 v2 v3 v4 W q g n c f)(i:W.grownBy W' (T g))(y:W'.ownsRow base 91 4 (Y (T (N b 0 Z)) n1 c1) n1 (bQ f1 n1))(C:b=g∨(A (B w))<=b)(hn:∀j,j<n1->(f1 j).e.size<=5000):LStD w0 w R base g0 v0 v1 v2 v3 v4 (W'.setCell (N (A (B w)) 5 Z) (Y (T (N b 0 Z)) n1 c1)) q b n1 c1 f1:=by
 obtain⟨z,E,D,e4⟩:=h.gne;have h1:=h.hR;have h2:=h.hb;have u:=h.hbw;have h4:=h.lt;have hw0:=h.on.size;have ZS:Below base W W':=bg br i (by omega) (λj e=>by cases e;exact D);have s:Below base W (W'.setCell (N (A (B w)) 5 Z) (Y (T (N b 0 Z)) n1 c1)):=ZS.setCell (p:=(N (A (B w)) 5 Z)) u _;have o:LBx W' (A (B w)) v0 v1 v2 v3 v4 (Y (T (N g 0 Z)) n c):=h.bx.ad (i.block _ h.bx.lt (by simpa using λe=>z e.symm));have x:=h.rs.ad (i.block _ h.rs.lt (by simpa using λe=>E e.symm));have far:∀m,m≠A (B w)->(W'.setCell (N (A (B w)) 5 Z) (Y (T (N b 0 Z)) n1 c1)).heap[m]?=W'.heap[m]?:=λm r=>qh W' (N (A (B w)) 5 Z) _ m (by simpa using r);refine⟨o.set5 _,x.ad (far _ (by omega)),h.rd.low s (by omega),da y o (by decide) _,h.on.then (s.mono h2),λm r t l=>?_,?_,hn,h1,h2,u⟩
 ·refine(far m (by omega)).trans ((i.block m (by omega) ?_).trans (h.same m r t l));rcases h.gg with e|e;{simpa[e] using l}
  ·intro ZR;have:m=g:=by simpa using ZR
   omega
 {rcases C with e|e;{rw[e];exact h.gg};{exact .inr e}}
end
theorem oL (W:M)(r:Option Nat):W.grownBy W r:=⟨rfl,rfl,rfl,nX _,λ_ _ _=>rfl⟩
theorem Ea{p c:Nat}(m:Only R w0 w)(hR:R<A (B w0))(hb:A (B w0)<=base)(hbw:base<=A (B w))(q:Rd w R p)(l:w.ownsRow base 91 4 (Y (T (N g 0 Z)) n c) n (bQ f n))(h:∀j,j<n->(f j).e.size<=5000):LStD w0 w R base g v0 v1 v2 v3 v4 ((w.alloc (J #[v0,v1,v2,v3,v4,Y (T (N g 0 Z)) n c] 46)).alloc (J #[U ⟨#[]⟩,Q I 0,Q I 0,U ⟨#[]⟩,Y Z 0 0,Y Z 0 0] 46)) p g n c f:=by
 have b:=(BS w).alloc ly (J #[v0,v1,v2,v3,v4,Y (T (N g 0 Z)) n c] 46);have hz:(w.alloc (J #[v0,v1,v2,v3,v4,Y (T (N g 0 Z)) n c] 46)).heap.size=A (B w)+1:=by simp
 have i:=(cM (w.alloc (J #[v0,v1,v2,v3,v4,Y (T (N g 0 Z)) n c] 46)).heap.size (w.alloc (J #[v0,v1,v2,v3,v4,Y (T (N g 0 Z)) n c] 46))).alloc ly (J #[U ⟨#[]⟩,Q I 0,Q I 0,U ⟨#[]⟩,Y Z 0 0,Y Z 0 0] 46);have ZR:=b.trans (i.mono b.size);have h2:=gM (w.alloc (J #[v0,v1,v2,v3,v4,Y (T (N g 0 Z)) n c] 46)) (J #[U ⟨#[]⟩,Q I 0,Q I 0,U ⟨#[]⟩,Y Z 0 0,Y Z 0 0] 46);rw[hz] at h2;exact⟨(i.block (A (B w)) (by rw[hz];omega)).trans (gM w _),h2,q.aa ZR ly,own_below l ZR ly,m.trans (Only.q ZR),λk o _ _=>ZR.block k o,.inl rfl,h,hR,hb,hbw⟩
theorem LBx.six{u0 u1 u2 u3 u4 u5:ZB}(h:LBx W b u0 u1 u2 u3 u4 u5)(v0 v1 v2 v3 v4 v5:ZB):LBx ((((((W.setCell (N b 0 Z) v0).setCell (N b 1 Z) v1).setCell (N b 2 Z) v2).setCell (N b 3 Z) v3).setCell (N b 4 Z) v4).setCell (N b 5 Z) v5) b v0 v1 v2 v3 v4 v5:=by have f:W.heap[b]?=T (J #[u0,u1,u2,u3,u4,u5] 46 (0,0)):=h;show((((((W.setCell (N b 0 Z) v0).setCell (N b 1 Z) v1).setCell (N b 2 Z) v2).setCell (N b 3 Z) v3).setCell (N b 4 Z) v4).setCell (N b 5 Z) v5).heap[b]?=_;simp[World.setCell,JV,f]
theorem pG (W:M)(b m:Nat)(v0 v1 v2 v3 v4 v5:ZB)(f:m≠b):((((((W.setCell (N b 0 Z) v0).setCell (N b 1 Z) v1).setCell (N b 2 Z) v2).setCell (N b 3 Z) v3).setCell (N b 4 Z) v4).setCell (N b 5 Z) v5).heap[m]?=W.heap[m]?:=by have far:∀(V:M) (j:Nat) (u:ZB),(V.setCell (N b j Z) u).heap[m]?=V.heap[m]?:=λV j u=>qh V (N b j Z) u m (by simpa using f);rw[far,far,far,far,far,far]
theorem qw (W:M)(b ZS:Nat)(v0 v1 v2 v3 v4 v5:ZB)(f:ZS<=b):Below ZS W ((((((W.setCell (N b 0 Z) v0).setCell (N b 1 Z) v1).setCell (N b 2 Z) v2).setCell (N b 3 Z) v3).setCell (N b 4 Z) v4).setCell (N b 5 Z) v5) :=
 ((((((cM ZS W).setCell (p:=(N b 0 Z)) f v0).setCell (p:=(N b 1 Z)) f v1).setCell (p:=(N b 2 Z)) f v2).setCell (p:=(N b 3 Z)) f v3).setCell (p:=(N b 4 Z)) f v4).setCell (p:=(N b 5 Z)) f v5
def DL (ZM:Nat)(w0 w:M)(R base g0:Nat)(v0 v1 v2 v3 v4:ZB)(q:Nat)(e:Ending)(b:M):Prop:=∃(g n c:Nat) (f:Nat->Link),e=ZD (ZG #[v0,v1,v2,v3,v4,Y (T (N g 0 Z)) n c])/\b.ownsRow base 91 4 (Y (T (N g 0 Z)) n c) n (bQ f n)/\n<=ZM+1/\(∀j,j<n->(f j).e.size<=5000)/\(∃q':Nat,q'<=q/\Rd b R q')/\Only R w0 b/\∀k,k<A (B w)->k≠R->k≠g0->b.heap[k]?=w.heap[k]?
theorem LStD.fin{ZM:Nat}{g0 c:Nat}(h:LStD w0 w R base g0 v0 v1 v2 v3 v4 W q g n c f)(hn:n<=ZM+1)(o:q<=ZN)(u0 u1 u2 u3 u4 u5:ZB):DL ZM w0 w R base g0 v0 v1 v2 v3 v4 ZN (ZD (ZG #[v0,v1,v2,v3,v4,Y (T (N g 0 Z)) n c])) ((((((W.setCell (N (A (B w)+1) 0 Z) u0).setCell (N (A (B w)+1) 1 Z) u1).setCell (N (A (B w)+1) 2 Z) u2).setCell (N (A (B w)+1) 3 Z) u3).setCell (N (A (B w)+1) 4 Z) u4).setCell (N (A (B w)+1) 5 Z) u5):=by
 obtain⟨e1,m,e3,e4⟩:=h.gne;have h1:=h.hR;have h2:=h.hb;have h3:=h.hbw;have l:=qw W (A (B w)+1) base u0 u1 u2 u3 u4 u5 (by omega);refine⟨g,n,c,f,rfl,cy h.x λk b _=>pG _ _ _ _ _ _ _ _ _ ?_,hn,h.nm,⟨q,o,h.rd.low l (by omega)⟩,h.on.then (l.mono h2),λk b j i=>(pG _ _ _ _ _ _ _ _ _ (by omega)).trans (h.same k b j i)⟩;have:k=g:=by simpa[Value.ownBlock] using b.symm
 rw[this];exact m
variable {K:Nat}
def atD (x:aj)(j:Nat)(z:Int):aj:={ x with u:=λi=>if i=j then { x.u j with G:=z } else x.u i }
theorem FitK.G{x:aj}(h:FitK K x)(b:j<x.l)(z:Int):FitK K (atD x j z):=by
 refine⟨h.nm,h.tx,h.an,h.asz,h.ln,λi hi=>?_⟩;show(if i=j then { x.u j with G:=z } else x.u i).e.size<=5000;split;{exact h.lsz j b};{exact h.lsz i hi}
theorem SpS.av{c f ZJ:Nat}(h:SpS K w R X W q a c D)(ZK:(D.map (·.2.2)).Pairwise Apt)(ZQ:D[i]?=T r)(C:r.2.2=Y (T (N f 0 Z)) r.1.l ZJ)(ZL:j<r.1.l)(z:Int):SpS K w R X (W.setCell (N f (j*4+3) Z) (Q I z)) q a c (D.set i (atD r.1 j z,r.2)):=by
 have ZR:=JF ZQ;have hlo:=h.lo;have hX:=h.hX;have hn:(D.set i (atD r.1 j z,r.2)).length=D.length:=JN;obtain⟨cl2,zl,ZO⟩:=eN (h.row.sub r ZR).av f (by rw[C];rfl);have ZI:A (B w)+2<=f:=((h.row.sub r ZR).av.lt f (by rw[C];rfl)).1;have ZN:X≠f:=λe=>by have:=h.bx;rw[e,ZO] at this;simp at this
 have ZS:=(cM (A (B w)+2) W).setCell (p:=(N f (j*4+3) Z)) ZI (Q I z);have far:∀m,m≠f->(W.setCell (N f (j*4+3) Z) (Q I z)).heap[m]?=W.heap[m]?:=λm l=>qh _ _ _ _ l;have ZM:∀m e,OfTy W m e->e≠91->m≠f:=λm e n he t=>by obtain⟨c0,z0,g⟩:=n;rw[t,ZO] at g;simp at g;exact he g.2.1.symm
 have O:(D.set i (atD r.1 j z,r.2)).flatMap ddV=D.flatMap ddV:=by
  have e:∀(L:List DR) (i:Nat),L[i]?=T r->(L.set i (atD r.1 j z,r.2)).flatMap ddV=L.flatMap ddV:=by
   intro L;induction L with
   |nil=>intro i g;simp at g
   |cons x L ih =>
    intro i g;cases i with
    |zero =>
     obtain rfl:x=r:=by simpa using g
     rfl
    |succ i =>
     have h1:L[i]?=T r:=by simpa using g
     rw[PL,JZ,JZ,ih i h1]
  exact e D i ZQ
 refine⟨h.rd.low ZS (by omega),h.o.then (ZS.mono (by omega)),(ZS.block _ (by omega)).trans h.rs,?_,⟨?_,λs hs=>?_⟩,mg h.az ((h.az r ZR).G ZL z),h.lo,h.hX,by rw[hn];exact h.num⟩;{rw[hn];exact(far X ZN).trans h.bx};{rw[hn,O];exact cy h.row.x λm _ n=>far m (ZM m _ n (by decide))}
 ·obtain⟨k,hi⟩:=LF hs;by_cases e:k=i;{subst e;rw[KM (by rw[<-hn];exact(p9.1 hi).1)] at hi;obtain rfl:=IT hi;refine⟨cy (h.row.sub r ZR).D λm _ n=>far m (ZM m _ n (by decide)),?_⟩;have V:=(h.row.sub r ZR).av;show World.ownsRow _ _ _ _ r.2.2 r.1.l (bQ (atD r.1 j z).u r.1.l);rw[C] at V ⊢;exact vv V ZL (by omega) rfl}
  ·rw[LZ (λt=>e t.symm)] at hi;have P:=JF hi;refine(h.row.sub s P).far (λm _ n=>far m (ZM m _ n (by decide))) λm l _=>far m λt=>?_;obtain⟨ZP,E⟩:=p9.1 hi;obtain⟨G,H⟩:=p9.1 ZQ;have u:r.2.2.ownBlock=T f:=by rw[C];rfl
   have S:=KF.1 ZK;rcases Nat.lt_or_gt_of_ne e with y|y;{have b:=S k i (by simpa using ZP) (by simpa using G) y;rw[QZ,QZ,E,H] at b;rcases b with b|b;{rw[l] at b;cases b};{exact b (by rw[l,u,t])}};{have b:=S i k (by simpa using G) (by simpa using ZP) y;rw[QZ,QZ,E,H] at b;rcases b with b|b;{rw[u] at b;cases b};{exact b (by rw[l,u,t])}}
theorem Bn (b:D[i]?=T r)(x:aj):(D.set i (x,r.2)).map (·.2)=D.map (·.2):=by
 rw[List.map_set];refine NY λk=>?_;by_cases e:k=i;{subst e;rw[KM (by rw[LI];exact(p9.1 b).1),JM,b];rfl};{rw[LZ (λf=>e f.symm)]}
theorem SpS.aside{c:Nat}{t:Array ZB}{z:Nat × Nat}(h:SpS K w R X W q (T (N g 0 Z)) c D)(hb:A (B w)+2<=b)(hX:b≠X)(l:b≠g)(hF:W.heap[b]?=T (J t 46 z))(v0 v1 v2 v3 v4 v5:ZB):SpS K w R X ((((((W.setCell (N b 0 Z) v0).setCell (N b 1 Z) v1).setCell (N b 2 Z) v2).setCell (N b 3 Z) v3).setCell (N b 4 Z) v4).setCell (N b 5 Z) v5) q (T (N g 0 Z)) c D:=by
 have hlo:=h.lo;have ZS:=qw W b (A (B w)+2) v0 v1 v2 v3 v4 v5 hb;have far:=λm=>pG W b m v0 v1 v2 v3 v4 v5;have j:∀m e,OfTy W m e->e≠46->m≠b:=λm e f n r=>by obtain⟨c0,z0,i⟩:=f;rw[r,hF] at i;simp at i;exact n i.2.1.symm
 refine⟨h.rd.low ZS (by omega),h.o.then (ZS.mono (by omega)),(ZS.block _ (by omega)).trans h.rs,(far X (λe=>hX e.symm)).trans h.bx,⟨cy h.row.x λm u _=>?_,λs p=>(h.row.sub s p).far (λm _ f=>far m (j m _ f (by decide))) (λm _ f=>far m (j m _ f (by decide)))⟩,h.az,h.lo,h.hX,h.num⟩;obtain rfl:g=m:=by simpa[Value.ownBlock] using u
 exact far g λe=>l e.symm
def km (nm tx:ByteArray)(b:Int):DR:=({ dV with e:=nm,H:=b,y:=tx },Y Z 0 0,Y Z 0 0)
theorem ts{nm tx:ByteArray}(f:Int)(h1:nm.size<=5000)(h2:tx.size<=2000+K):FitK K (km nm tx f).1:=⟨h1,h2,IH _,λj b=>absurd b (by simp[km,dV]),IH _,λj b=>absurd b (by simp[km,dV])⟩
theorem Bo (w:M)(base:Nat)(nm tx:ByteArray)(b:Int):DSub w base (km nm tx b):=⟨ES _ _ _ _,ES _ _ _ _⟩
theorem EY (h:D.Pairwise λa b=>Apt a.2.1 b.2.1/\Apt a.2.2 b.2.2)(nm tx:ByteArray)(f:Int):((km nm tx f::D).map (·.2.2)).Pairwise Apt:=by rw[Q2,LM];exact⟨λx _=>.inl rfl,List.pairwise_map.2 (h.imp λh=>h.2)⟩
def Cx:Prop:=∀(m:Nat) (w:M),m<=61->Calls Tryz.prog 123 #[Q I m] w λe b=>∃(a:Option Addr) (n c:Nat) (f:Nat->aj),e=ZD (ZG #[Y a n c])/\HAc (A (B w)) b a n c f/\Below (A (B w)) w b/\n<=450/\∀i,i<n->FitK 0 (f i)
theorem SpS.other{W':M}{c:Nat}{f:Option Addr}{j:Nat->aj}(h:SpS K w R X W q a c D)(s:Below (A (B W)) W W')(hH:HAc (A (B W)) W' f b g j)(hn:b<=450)(r:∀i,i<b->FitK 0 (j i))(m:q<=ZN):DAK K w R ZN (ZD (ZG #[Y f b g])) (W'.setCell (N (A (B w)+1) 0 Z) (Y f b g)):=by
 have l:=h.aa s;have hl:=h.lo;have hx:=h.lt;have hX:=h.hX;have ZS:=(cM (A (B w)) W').setCell (p:=(N (A (B w)+1) 0 Z)) (JH _) (Y f b g);have n:Agr (A (B W)) W' (W'.setCell (N (A (B w)+1) 0 Z) (Y f b g)):=⟨by simp,λk h1 _=>qh _ _ _ _ (by show k≠A (B w)+1;omega)⟩
 exact⟨f,b,g,j,rfl,(hH.agr n).mono (by omega),⟨q,m,l.rd.low ZS h.lo,l.o.then ZS⟩,by omega,λi hi=>(r i hi).up (IH _)⟩
