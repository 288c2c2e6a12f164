import Derived.Test.YtamacmnikdejeaaGreatDoorQH
import Derived.Deep.AppendLies
set_option linter.unusedSimpArgs false
open Go.Addr renaming mk->N
open Go.Value renaming slice->Y,string->U,int->J,agg->QG
open Option renaming none->Z,some->T
open Go.Obj renaming cells->Q
open Go.IntKind renaming i64->I
open Go renaming World->G,Value->QE
open Go.Ending renaming returned->QF
namespace Go.Proofs.YtamacmnikdejeaaGreatDoor.Vp
open RowKit Ca
def LBx (W:G)(b:Nat)(v0 v1 v2 v3 v4 v5:QE):Prop:=W.heap[b]?=T (Q #[v0,v1,v2,v3,v4,v5] 46 (0,0))
section
variable {W W':G}{b:Nat}{v0 v1 v2 v3 v4 v5:QE}
theorem LBx.lt (h:LBx W b v0 v1 v2 v3 v4 v5):b<W.heap.size:=ai h
theorem LBx.cells (h:LBx W b v0 v1 v2 v3 v4 v5):W.cell? (N b 0 Z)=T v0/\W.cell? (N b 1 Z)=T v1/\W.cell? (N b 2 Z)=T v2/\W.cell? (N b 3 Z)=T v3/\W.cell? (N b 4 Z)=T v4/\W.cell? (N b 5 Z)=T v5:=by have f:W.heap[b]?=T (Q #[v0,v1,v2,v3,v4,v5] 46 (0,0)):=h;refine⟨?_,?_,?_,?_,?_,?_⟩<;>simp[World.cell?,f]
theorem LBx.fz (h:LBx W b v0 v1 v2 v3 v4 v5)(j:Nat):W.frozen? (N b j Z)=false:=by have f:W.heap[b]?=T (Q #[v0,v1,v2,v3,v4,v5] 46 (0,0)):=h;simp[World.frozen?,f]
theorem LBx.blk (h:LBx W b v0 v1 v2 v3 v4 v5)(e:W'.heap[b]?=W.heap[b]?):LBx W' b v0 v1 v2 v3 v4 v5:=e.trans h
theorem LBx.set5 (h:LBx W b v0 v1 v2 v3 v4 v5)(u:QE):LBx (W.setCell (N b 5 Z) u) b v0 v1 v2 v3 v4 u:=by have f:W.heap[b]?=T (Q #[v0,v1,v2,v3,v4,v5] 46 (0,0)):=h;show(W.setCell (N b 5 Z) u).heap[b]?=_;simp[World.setCell,IK,f]
end
theorem zb {b:Type}(f:Nat->b)(n k:Nat)(y:b):((List.range n).map f).set k y=(List.range n).map (fun i=>if i=k then y else f i):=by
 refine LG fun i=>?_;rw[List.getElem?_set,IH,IH];by_cases hi:i<n
 ·by_cases e:k=i
  ·subst e
   simp[hi]
  ·have g:¬ i=k:=fun h=>e h.symm
   simp[hi,e,g]
 ·by_cases e:k=i
  ·subst e
   simp[hi]
  ·simp[hi,e]
theorem vH {w:G}{base g n c k j:Nat}{f:Nat->Link}{y:Link}{u:QE}(h:w.ownsRow base 129 4 (Y (T (N g 0 Z)) n c) n (bV f n))(l:k<n)(m:j<4)(o:dE y=(dE (f k)).set j u):(w.setCell (N g (k*4+j) Z) u).ownsRow base 129 4 (Y (T (N g 0 Z)) n c) n (bV (fun i=>if i=k then y else f i) n):=by have b:=fV (j:=k*4+j) h u;have e:=jH dE 4 (fun _=>rfl) m o ((List.range n).map f) k (by simp[l]);rw[zb] at e;unfold bV at b ⊢;rw[e] at b;exact b
theorem cD {w:G}{base g n c k j:Nat}{f:Nat->Link}{u:QE}(h:w.ownsRow base 129 4 (Y (T (N g 0 Z)) n c) n (bV f n))(b:k<n)(l:j<4)(i:(dE (f k))[j]?=T u):w.cell? (N g (k*4+j) Z)=T u/\w.frozen? (N g (k*4+j) Z)=false :=
 bv h (j:=k*4+j) (by rw[i8 f b j l];exact i)
theorem Dt {w:G}{base size n g c:Nat}{e:TypeId}{f:List QE}(h:w.ownsRow base e size (Y (T (N g 0 Z)) n c) n f):base<=g/\∃ i,w.heap[g]?=T (Q i e (0,0)):=by
 rcases h.2 with ⟨b,_⟩ | ⟨g',cap,cur,b,hb,j,_⟩
 ·cases b
 ·cases b
  exact⟨hb,_,j⟩
structure LStD (w0 w:G)(R base g0:Nat)(v0 v1 v2 v3 v4:QE)(W:G)(q g n c:Nat)(f:Nat->Link):Prop where
 bx:LBx W w.heap.size v0 v1 v2 v3 v4 (Y (T (N g 0 Z)) n c)
 rs:LBx W (w.heap.size+1) (U ⟨#[]⟩) (J I 0) (J I 0) (U ⟨#[]⟩) (Y Z 0 0) (Y Z 0 0)
 rd:Rd W R q
 own:W.ownsRow base 129 4 (Y (T (N g 0 Z)) n c) n (bV f n)
 on:Only R w0 W
 same:∀ k,k<w.heap.size->k≠R->k≠g0->W.heap[k]?=w.heap[k]?
 gg:g=g0∨w.heap.size<=g
 nm:∀ j,j<n->(f j).name.size<=5000
 hR:R<w0.heap.size
 hb:w0.heap.size<=base
 hbw:base<=w.heap.size
section
variable {w0 w W W':G}{R base g0 q q' g n c:Nat}{v0 v1 v2 v3 v4:QE}{f:Nat->Link}
theorem LStD.lt (h:LStD w0 w R base g0 v0 v1 v2 v3 v4 W q g n c f):w.heap.size+2<=W.heap.size:=h.rs.lt
theorem LStD.only (h:LStD w0 w R base g0 v0 v1 v2 v3 v4 W q g n c f)(b:Only R W W')(l:Rd W' R q'):LStD w0 w R base g0 v0 v1 v2 v3 v4 W' q' g n c f:=by have h1:=h.hR;have h2:=h.hb;have m:=h.hbw;have h4:=h.lt;exact⟨h.bx.blk (b.block _ h.bx.lt (by omega)),h.rs.blk (b.block _ h.rs.lt (by omega)),l,fL h.own b (by omega),h.on.trans b,fun k o i j=>(b.block k (by omega) i).trans (h.same k o i j),h.gg,h.nm,h1,h2,m⟩
theorem LStD.below (h:LStD w0 w R base g0 v0 v1 v2 v3 v4 W q g n c f)(b:Below W.heap.size W W'):LStD w0 w R base g0 v0 v1 v2 v3 v4 W' q g n c f:=h.only (Only.of_below b) (h.rd.below b ly)
theorem LStD.gne (h:LStD w0 w R base g0 v0 v1 v2 v3 v4 W q g n c f):g≠w.heap.size/\g≠w.heap.size+1/\base<=g/\g<W.heap.size:=by
 obtain⟨hb,cs,b⟩:=Dt h.own;refine⟨fun e=>?_,fun e=>?_,hb,ai b⟩
 ·have:=h.bx
  unfold LBx at this;rw[<-e,b] at this;cases this
 ·have:=h.rs
  unfold LBx at this;rw[<-e,b] at this;cases this
theorem LStD.setL {k j:Nat}{y:Link}{u:QE}(h:LStD w0 w R base g0 v0 v1 v2 v3 v4 W q g n c f)(A:k<n)(x:j<4)(z:dE y=(dE (f k)).set j u)(s:y.name.size<=5000):LStD w0 w R base g0 v0 v1 v2 v3 v4 (W.setCell (N g (k*4+j) Z) u) q g n c (fun i=>if i=k then y else f i):=by
 obtain⟨t,C,B,e4⟩:=h.gne;have h1:=h.hR;have h2:=h.hb;have r:Below base W (W.setCell (N g (k*4+j) Z) u):=br.setCell (p:=(N g (k*4+j) Z)) B u;have far:∀ m,m≠g->(W.setCell (N g (k*4+j) Z) u).heap[m]?=W.heap[m]?:=fun m l=>qh W (N g (k*4+j) Z) u m (by simpa using l);refine⟨h.bx.blk (far _ (fun e=>t e.symm)),h.rs.blk (far _ (fun e=>C e.symm)),h.rd.low r (by omega),vH h.own A x z,h.on.then (r.mono h2),fun m l o b=>(far m ?_).trans (h.same m l o b),h.gg,fun i hi=>?_,h1,h2,h.hbw⟩
 ·rcases h.gg with e | e
  ·rw[e];exact b
  ·omega
 ·show(if i=k then y else f i).name.size<=5000
  split
  ·exact s
  ·exact h.nm i hi
theorem LStD.setB {b n1 c1:Nat}{f1:Nat->Link}(h:LStD w0 w R base g0 v0 v1 v2 v3 v4 W q g n c f)(i:W.grownBy W' (T g))(B:W'.ownsRow base 129 4 (Y (T (N b 0 Z)) n1 c1) n1 (bV f1 n1))(A:b=g∨w.heap.size<=b)(hn:∀ j,j<n1->(f1 j).name.size<=5000):LStD w0 w R base g0 v0 v1 v2 v3 v4 (W'.setCell (N w.heap.size 5 Z) (Y (T (N b 0 Z)) n1 c1)) q b n1 c1 f1:=by
 obtain⟨y,E,D,e4⟩:=h.gne;have h1:=h.hR;have h2:=h.hb;have s:=h.hbw;have h4:=h.lt;have hw0:=h.on.size;have C:Below base W W':=bg br i (by omega) (fun j e=>by cases e;exact D);have u:Below base W (W'.setCell (N w.heap.size 5 Z) (Y (T (N b 0 Z)) n1 c1)):=C.setCell (p:=(N w.heap.size 5 Z)) s _;have o:LBx W' w.heap.size v0 v1 v2 v3 v4 (Y (T (N g 0 Z)) n c):=h.bx.blk (i.block _ h.bx.lt (by simpa using fun e=>y e.symm));have t:=h.rs.blk (i.block _ h.rs.lt (by simpa using fun e=>E e.symm));have far:∀ m,m≠w.heap.size->(W'.setCell (N w.heap.size 5 Z) (Y (T (N b 0 Z)) n1 c1)).heap[m]?=W'.heap[m]?:=fun m r=>qh W' (N w.heap.size 5 Z) _ m (by simpa using r);refine⟨o.set5 _,t.blk (far _ (by omega)),h.rd.low u (by omega),dy B o (by decide) _,h.on.then (u.mono h2),fun m r x l=>?_,?_,hn,h1,h2,s⟩
 ·refine(far m (by omega)).trans ((i.block m (by omega) ?_).trans (h.same m r x l))
  rcases h.gg with e | e
  ·simpa[e] using l
  ·intro z
   have:m=g:=by simpa using z
   omega
 ·rcases A with e | e
  ·rw[e];exact h.gg
  ·exact .inr e
end
theorem lD (W:G)(r:Option Nat):W.grownBy W r:=⟨rfl,rfl,rfl,j6 _,fun _ _ _=>rfl⟩
theorem Du {w0 w:G}{R p base g n c:Nat}{v0 v1 v2 v3 v4:QE}{f:Nat->Link}(q:Only R w0 w)(hR:R<w0.heap.size)(hb:w0.heap.size<=base)(hbw:base<=w.heap.size)(m:Rd w R p)(i:w.ownsRow base 129 4 (Y (T (N g 0 Z)) n c) n (bV f n))(h:∀ j,j<n->(f j).name.size<=5000):LStD w0 w R base g v0 v1 v2 v3 v4 ((w.alloc (Q #[v0,v1,v2,v3,v4,Y (T (N g 0 Z)) n c] 46)).alloc (Q #[U ⟨#[]⟩,J I 0,J I 0,U ⟨#[]⟩,Y Z 0 0,Y Z 0 0] 46)) p g n c f:=by
 have l:=(q9 w).alloc ly (Q #[v0,v1,v2,v3,v4,Y (T (N g 0 Z)) n c] 46);have hz:(w.alloc (Q #[v0,v1,v2,v3,v4,Y (T (N g 0 Z)) n c] 46)).heap.size=w.heap.size+1:=by simp
 have b:=(a8 (w.alloc (Q #[v0,v1,v2,v3,v4,Y (T (N g 0 Z)) n c] 46)).heap.size (w.alloc (Q #[v0,v1,v2,v3,v4,Y (T (N g 0 Z)) n c] 46))).alloc ly (Q #[U ⟨#[]⟩,J I 0,J I 0,U ⟨#[]⟩,Y Z 0 0,Y Z 0 0] 46);have A:=l.trans (b.mono l.size);have h2:=eT (w.alloc (Q #[v0,v1,v2,v3,v4,Y (T (N g 0 Z)) n c] 46)) (Q #[U ⟨#[]⟩,J I 0,J I 0,U ⟨#[]⟩,Y Z 0 0,Y Z 0 0] 46);rw[hz] at h2;exact⟨(b.block w.heap.size (by rw[hz];omega)).trans (eT w _),h2,m.below A ly,own_below i A ly,q.trans (Only.of_below A),fun k o _ _=>A.block k o,.inl rfl,h,hR,hb,hbw⟩
theorem LBx.six {W:G}{b:Nat}{u0 u1 u2 u3 u4 u5:QE}(h:LBx W b u0 u1 u2 u3 u4 u5)(v0 v1 v2 v3 v4 v5:QE):LBx ((((((W.setCell (N b 0 Z) v0).setCell (N b 1 Z) v1).setCell (N b 2 Z) v2).setCell (N b 3 Z) v3).setCell (N b 4 Z) v4).setCell (N b 5 Z) v5) b v0 v1 v2 v3 v4 v5:=by have f:W.heap[b]?=T (Q #[u0,u1,u2,u3,u4,u5] 46 (0,0)):=h;show((((((W.setCell (N b 0 Z) v0).setCell (N b 1 Z) v1).setCell (N b 2 Z) v2).setCell (N b 3 Z) v3).setCell (N b 4 Z) v4).setCell (N b 5 Z) v5).heap[b]?=_;simp[World.setCell,IK,f]
theorem qn (W:G)(b m:Nat)(v0 v1 v2 v3 v4 v5:QE)(f:m≠b):((((((W.setCell (N b 0 Z) v0).setCell (N b 1 Z) v1).setCell (N b 2 Z) v2).setCell (N b 3 Z) v3).setCell (N b 4 Z) v4).setCell (N b 5 Z) v5).heap[m]?=W.heap[m]?:=by have far:∀ (V:G) (j:Nat) (u:QE),(V.setCell (N b j Z) u).heap[m]?=V.heap[m]?:=fun V j u=>qh V (N b j Z) u m (by simpa using f);rw[far,far,far,far,far,far]
theorem qX (W:G)(b B:Nat)(v0 v1 v2 v3 v4 v5:QE)(f:B<=b):Below B W ((((((W.setCell (N b 0 Z) v0).setCell (N b 1 Z) v1).setCell (N b 2 Z) v2).setCell (N b 3 Z) v3).setCell (N b 4 Z) v4).setCell (N b 5 Z) v5) :=
 ((((((a8 B W).setCell (p:=(N b 0 Z)) f v0).setCell (p:=(N b 1 Z)) f v1).setCell (p:=(N b 2 Z)) f v2).setCell (p:=(N b 3 Z)) f v3).setCell (p:=(N b 4 Z)) f v4).setCell (p:=(N b 5 Z)) f v5
def DL (QN:Nat)(w0 w:G)(R base g0:Nat)(v0 v1 v2 v3 v4:QE)(q:Nat)(e:Ending)(b:G):Prop:=∃ (g n c:Nat) (f:Nat->Link),e=QF (QG #[v0,v1,v2,v3,v4,Y (T (N g 0 Z)) n c])/\b.ownsRow base 129 4 (Y (T (N g 0 Z)) n c) n (bV f n)/\n<=QN+1/\(∀ j,j<n->(f j).name.size<=5000)/\(∃ q':Nat,q'<=q/\Rd b R q')/\Only R w0 b/\∀ k,k<w.heap.size->k≠R->k≠g0->b.heap[k]?=w.heap[k]?
theorem LStD.fin {QN:Nat}{w0 w W:G}{R base g0 q g n c QM:Nat}{v0 v1 v2 v3 v4:QE}{f:Nat->Link}(h:LStD w0 w R base g0 v0 v1 v2 v3 v4 W q g n c f)(hn:n<=QN+1)(m:q<=QM)(u0 u1 u2 u3 u4 u5:QE):DL QN w0 w R base g0 v0 v1 v2 v3 v4 QM (QF (QG #[v0,v1,v2,v3,v4,Y (T (N g 0 Z)) n c])) ((((((W.setCell (N (w.heap.size+1) 0 Z) u0).setCell (N (w.heap.size+1) 1 Z) u1).setCell (N (w.heap.size+1) 2 Z) u2).setCell (N (w.heap.size+1) 3 Z) u3).setCell (N (w.heap.size+1) 4 Z) u4).setCell (N (w.heap.size+1) 5 Z) u5):=by
 obtain⟨e1,o,e3,e4⟩:=h.gne;have h1:=h.hR;have h2:=h.hb;have h3:=h.hbw;have j:=qX W (w.heap.size+1) base u0 u1 u2 u3 u4 u5 (by omega);refine⟨g,n,c,f,rfl,dL h.own fun k b _=>qn _ _ _ _ _ _ _ _ _ ?_,hn,h.nm,⟨q,m,h.rd.low j (by omega)⟩,h.on.then (j.mono h2),fun k b i l=>(qn _ _ _ _ _ _ _ _ _ (by omega)).trans (h.same k b i l)⟩;have:k=g:=by simpa[Value.ownBlock] using b.symm
 rw[this];exact o
variable {K:Nat}
def atD (x:ah)(j:Nat)(z:Int):ah:={ x with links:=fun i=>if i=j then { x.links j with at_:=z } else x.links i }
theorem FitK.at_ {x:ah}(h:FitK K x){j:Nat}(b:j<x.linksN)(z:Int):FitK K (atD x j z):=by
 refine⟨h.nm,h.tx,h.an,h.asz,h.ln,fun i hi=>?_⟩;show(if i=j then { x.links j with at_:=z } else x.links i).name.size<=5000;split
 ·exact h.lsz j b
 ·exact h.lsz i hi
theorem SpS.lnk {w W:G}{R X q c i j f cl:Nat}{a:Option Addr}{D:List DR}{r:DR}(h:SpS K w R X W q a c D)(QK:(D.map (·.2.2)).Pairwise Apt)(M:D[i]?=T r)(C:r.2.2=Y (T (N f 0 Z)) r.1.linksN cl)(S:j<r.1.linksN)(z:Int):SpS K w R X (W.setCell (N f (j*4+3) Z) (J I z)) q a c (D.set i (atD r.1 j z,r.2)):=by
 have u:=IE M;have hlo:=h.lo;have hX:=h.hX;have hn:(D.set i (atD r.1 j z,r.2)).length=D.length:=IC;obtain⟨cl2,zl,QR⟩:=fh (h.row.sub r u).lnk f (by rw[C];rfl);have P:w.heap.size+2<=f:=((h.row.sub r u).lnk.lt f (by rw[C];rfl)).1;have QH:X≠f:=fun e=>by have:=h.bx;rw[e,QR] at this;simp at this
 have B:=(a8 (w.heap.size+2) W).setCell (p:=(N f (j*4+3) Z)) P (J I z);have far:∀ m,m≠f->(W.setCell (N f (j*4+3) Z) (J I z)).heap[m]?=W.heap[m]?:=fun m l=>qh _ _ _ _ l;have QN:∀ m e,OfTy W m e->e≠129->m≠f:=fun m e n he t=>by obtain⟨c0,z0,g⟩:=n;rw[t,QR] at g;simp at g;exact he g.2.1.symm
 have V:(D.set i (atD r.1 j z,r.2)).flatMap ddV=D.flatMap ddV:=by
  have e:∀ (L:List DR) (i:Nat),L[i]?=T r->(L.set i (atD r.1 j z,r.2)).flatMap ddV=L.flatMap ddV:=by
   intro L;induction L with
   | nil=>intro i g;simp at g
   | cons x L ih =>
    intro i g;cases i with
    | zero =>
     obtain rfl:x=r:=by simpa using g
     rfl
    | succ i =>
     have h1:L[i]?=T r:=by simpa using g
     rw[LV,IY,IY,ih i h1]
  exact e D i M
 refine⟨h.rd.low B (by omega),h.o.then (B.mono (by omega)),(B.block _ (by omega)).trans h.rs,?_,⟨?_,fun s QJ=>?_⟩,mV h.fit ((h.fit r u).at_ S z),h.lo,h.hX,by rw[hn];exact h.num⟩
 ·rw[hn]
  exact(far X QH).trans h.bx
 ·rw[hn,V]
  exact dL h.row.own fun m _ n=>far m (QN m _ n (by decide))
 ·obtain⟨k,hi⟩:=JH QJ
  by_cases e:k=i
  ·subst e
   rw[I5 (by rw[<-hn];exact(j2.1 hi).1)] at hi;obtain rfl:=DC hi;refine⟨dL (h.row.sub r u).act fun m _ n=>far m (QN m _ n (by decide)),?_⟩;have O:=(h.row.sub r u).lnk;show World.ownsRow _ _ _ _ r.2.2 r.1.linksN (bV (atD r.1 j z).links r.1.linksN);rw[C] at O ⊢;exact vH O S (by omega) rfl
  ·rw[JO (fun t=>e t.symm)] at hi
   have QL:=IE hi;refine(h.row.sub s QL).far (fun m _ n=>far m (QN m _ n (by decide))) (fun m l _=>far m fun t=>?_);obtain⟨QP,QO⟩:=j2.1 hi;obtain⟨E,H⟩:=j2.1 M;have y:r.2.2.ownBlock=T f:=by rw[C];rfl
   have QM:=ID.1 QK;rcases Nat.lt_or_gt_of_ne e with A | A
   ·have b:=QM k i (by simpa using QP) (by simpa using E) A
    rw[MQ,MQ,QO,H] at b;rcases b with b | b
    ·rw[l] at b;cases b
    ·exact b (by rw[l,y,t])
   ·have b:=QM i k (by simpa using E) (by simpa using QP) A
    rw[MQ,MQ,QO,H] at b;rcases b with b | b
    ·rw[y] at b;cases b
    ·exact b (by rw[l,y,t])
theorem Bf {D:List DR}{i:Nat}{r:DR}(b:D[i]?=T r)(x:ah):(D.set i (x,r.2)).map (·.2)=D.map (·.2):=by
 rw[List.map_set];refine LG fun k=>?_;by_cases e:k=i
 ·subst e
  rw[I5 (by rw[JN];exact(j2.1 b).1),IH,b];rfl
 ·rw[JO (fun f=>e f.symm)]
theorem SpS.aside {w W:G}{R X q c g b:Nat}{D:List DR}{t:Array QE}{z:Nat × Nat}(h:SpS K w R X W q (T (N g 0 Z)) c D)(hb:w.heap.size+2<=b)(hX:b≠X)(u:b≠g)(hF:W.heap[b]?=T (Q t 46 z))(v0 v1 v2 v3 v4 v5:QE):SpS K w R X ((((((W.setCell (N b 0 Z) v0).setCell (N b 1 Z) v1).setCell (N b 2 Z) v2).setCell (N b 3 Z) v3).setCell (N b 4 Z) v4).setCell (N b 5 Z) v5) q (T (N g 0 Z)) c D:=by
 have hlo:=h.lo;have B:=qX W b (w.heap.size+2) v0 v1 v2 v3 v4 v5 hb;have far:=fun m=>qn W b m v0 v1 v2 v3 v4 v5;have j:∀ m e,OfTy W m e->e≠46->m≠b:=fun m e f n p=>by obtain⟨c0,z0,i⟩:=f;rw[p,hF] at i;simp at i;exact n i.2.1.symm
 refine⟨h.rd.low B (by omega),h.o.then (B.mono (by omega)),(B.block _ (by omega)).trans h.rs,(far X (fun e=>hX e.symm)).trans h.bx,⟨dL h.row.own fun m r _=>?_,fun s l=>(h.row.sub s l).far (fun m _ f=>far m (j m _ f (by decide))) (fun m _ f=>far m (j m _ f (by decide)))⟩,h.fit,h.lo,h.hX,h.num⟩;obtain rfl:g=m:=by simpa[Value.ownBlock] using r
 exact far g (fun e=>u e.symm)
def lE (nm tx:ByteArray)(kd:Int):DR:=({ eU with name:=nm,kind:=kd,text:=tx },Y Z 0 0,Y Z 0 0)
theorem tR {nm tx:ByteArray}(kd:Int)(h1:nm.size<=5000)(h2:tx.size<=2000+K):FitK K (lE nm tx kd).1:=⟨h1,h2,DN _,fun j b=>absurd b (by simp[lE,eU]),DN _,fun j b=>absurd b (by simp[lE,eU])⟩
theorem Bg (w:G)(base:Nat)(nm tx:ByteArray)(kd:Int):DSub w base (lE nm tx kd):=⟨BG _ _ _ _,BG _ _ _ _⟩
theorem Eo {D:List DR}(h:D.Pairwise fun a b=>Apt a.2.1 b.2.1/\Apt a.2.2 b.2.2)(nm tx:ByteArray)(kd:Int):((lE nm tx kd :: D).map (·.2.2)).Pairwise Apt:=by rw[LQ,NN];exact⟨fun x _=>.inl rfl,List.pairwise_map.2 (h.imp fun h=>h.2)⟩
def Ce:Prop:=∀ (m:Nat) (w:G),m<=61->Calls Tryz.prog 80 #[J I m] w fun e b=>∃ (a:Option Addr) (n c:Nat) (f:Nat->ah),e=QF (QG #[Y a n c])/\HAc w.heap.size b a n c f/\Below w.heap.size w b/\n<=450/\∀ i,i<n->FitK 0 (f i)
theorem SpS.other {w W W':G}{R X q c g b QM:Nat}{a f:Option Addr}{D:List DR}{j:Nat->ah}(h:SpS K w R X W q a c D)(n:Below W.heap.size W W')(hH:HAc W.heap.size W' f b g j)(hn:b<=450)(m:∀ i,i<b->FitK 0 (j i))(s:q<=QM):DAK K w R QM (QF (QG #[Y f b g])) (W'.setCell (N (w.heap.size+1) 0 Z) (Y f b g)):=by
 have l:=h.below n;have hl:=h.lo;have hx:=h.lt;have hX:=h.hX;have B:=(a8 w.heap.size W').setCell (p:=(N (w.heap.size+1) 0 Z)) (CV _) (Y f b g);have r:Agr W.heap.size W' (W'.setCell (N (w.heap.size+1) 0 Z) (Y f b g)):=⟨by simp,fun k h1 _=>qh _ _ _ _ (by show k≠w.heap.size+1;omega)⟩
 exact⟨f,b,g,j,rfl,(hH.agr r).mono (by omega),⟨q,s,l.rd.low B h.lo,l.o.then B⟩,by omega,fun i hi=>(m i hi).up (DN _)⟩
end Go.Proofs.YtamacmnikdejeaaGreatDoor.Vp
