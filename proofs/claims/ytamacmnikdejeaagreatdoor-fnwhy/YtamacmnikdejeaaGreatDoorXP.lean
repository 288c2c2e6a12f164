import Derived.Test.YtamacmnikdejeaaGreatDoorXO
import Derived.Deep.AppendLies
set_option linter.unusedSimpArgs false
open Go.Addr renaming mk->T
open Go.Value renaming slice->Y,string->U,int->I,agg->QV
open Option renaming none->Z,some->N
open Go.Obj renaming cells->Q
open Go.IntKind renaming i64->J
open Go renaming World->H,Value->QS
open Go.Ending renaming returned->QU
namespace Go.Proofs.YtamacmnikdejeaaGreatDoor.Vp
open RowKit Ca
def LBx (W:H)(b:Nat)(v0 v1 v2 v3 v4 v5:QS):Prop:=W.heap[b]?=N (Q #[v0,v1,v2,v3,v4,v5] 46 (0,0))
section
variable {W W':H}{b:Nat}{v0 v1 v2 v3 v4 v5:QS}
theorem LBx.lt (h:LBx W b v0 v1 v2 v3 v4 v5):b<W.heap.size:=ai h
theorem LBx.cells (h:LBx W b v0 v1 v2 v3 v4 v5):W.cell? (T b 0 Z)=N v0/\W.cell? (T b 1 Z)=N v1/\W.cell? (T b 2 Z)=N v2/\W.cell? (T b 3 Z)=N v3/\W.cell? (T b 4 Z)=N v4/\W.cell? (T b 5 Z)=N v5:=by have c:W.heap[b]?=N (Q #[v0,v1,v2,v3,v4,v5] 46 (0,0)):=h;refine⟨?_,?_,?_,?_,?_,?_⟩<;>simp[World.cell?,c]
theorem LBx.fz (h:LBx W b v0 v1 v2 v3 v4 v5)(j:Nat):W.frozen? (T b j Z)=false:=by have c:W.heap[b]?=N (Q #[v0,v1,v2,v3,v4,v5] 46 (0,0)):=h;simp[World.frozen?,c]
theorem LBx.blk (h:LBx W b v0 v1 v2 v3 v4 v5)(e:W'.heap[b]?=W.heap[b]?):LBx W' b v0 v1 v2 v3 v4 v5:=e.trans h
theorem LBx.set5 (h:LBx W b v0 v1 v2 v3 v4 v5)(u:QS):LBx (W.setCell (T b 5 Z) u) b v0 v1 v2 v3 v4 u:=by have c:W.heap[b]?=N (Q #[v0,v1,v2,v3,v4,v5] 46 (0,0)):=h;show(W.setCell (T b 5 Z) u).heap[b]?=_;simp[World.setCell,JR,c]
end
theorem Av {b:Type}(f:Nat->b)(n k:Nat)(y:b):((List.range n).map f).set k y=(List.range n).map (fun i=>if i=k then y else f i):=by
 refine NM fun i=>?_;rw[List.getElem?_set,IN,IN];by_cases hi:i<n
 ·by_cases e:k=i
  ·subst e
   simp[hi]
  ·have c:¬ i=k:=fun h=>e h.symm
   simp[hi,e,c]
 ·by_cases e:k=i
  ·subst e
   simp[hi]
  ·simp[hi,e]
theorem wP {w:H}{base g n c k j:Nat}{f:Nat->Link}{y:Link}{u:QS}(h:w.ownsRow base 129 4 (Y (N (T g 0 Z)) n c) n (bZ f n))(l:k<n)(o:j<4)(m:dV y=(dV (f k)).set j u):(w.setCell (T g (k*4+j) Z) u).ownsRow base 129 4 (Y (N (T g 0 Z)) n c) n (bZ (fun i=>if i=k then y else f i) n):=by have b:=gK (j:=k*4+j) h u;have e:=kf dV 4 (fun _=>rfl) o m ((List.range n).map f) k (by simp[l]);rw[Av] at e;unfold bZ at b ⊢;rw[e] at b;exact b
theorem cI {w:H}{base g n c k j:Nat}{f:Nat->Link}{u:QS}(h:w.ownsRow base 129 4 (Y (N (T g 0 Z)) n c) n (bZ f n))(i:k<n)(l:j<4)(b:(dV (f k))[j]?=N u):w.cell? (T g (k*4+j) Z)=N u/\w.frozen? (T g (k*4+j) Z)=false :=
 bB h (j:=k*4+j) (by rw[jA f i j l];exact b)
theorem Ff {w:H}{base size n g c:Nat}{e:TypeId}{j:List QS}(h:w.ownsRow base e size (Y (N (T g 0 Z)) n c) n j):base<=g/\∃ i,w.heap[g]?=N (Q i e (0,0)):=by
 rcases h.2 with ⟨b,_⟩ | ⟨g',cap,cur,b,hb,f,_⟩
 ·cases b
 ·cases b
  exact⟨hb,_,f⟩
structure LStD (w0 w:H)(R base g0:Nat)(v0 v1 v2 v3 v4:QS)(W:H)(q g n c:Nat)(f:Nat->Link):Prop where
 bx:LBx W w.heap.size v0 v1 v2 v3 v4 (Y (N (T g 0 Z)) n c)
 rs:LBx W (w.heap.size+1) (U ⟨#[]⟩) (I J 0) (I J 0) (U ⟨#[]⟩) (Y Z 0 0) (Y Z 0 0)
 rd:Rd W R q
 own:W.ownsRow base 129 4 (Y (N (T g 0 Z)) n c) n (bZ f n)
 on:Only R w0 W
 same:∀ k,k<w.heap.size->k≠R->k≠g0->W.heap[k]?=w.heap[k]?
 gg:g=g0∨w.heap.size<=g
 nm:∀ j,j<n->(f j).name.size<=5000
 hR:R<w0.heap.size
 hb:w0.heap.size<=base
 hbw:base<=w.heap.size
section
variable {w0 w W W':H}{R base g0 q q' g n c:Nat}{v0 v1 v2 v3 v4:QS}{f:Nat->Link}
theorem LStD.lt (h:LStD w0 w R base g0 v0 v1 v2 v3 v4 W q g n c f):w.heap.size+2<=W.heap.size:=h.rs.lt
theorem LStD.only (h:LStD w0 w R base g0 v0 v1 v2 v3 v4 W q g n c f)(b:Only R W W')(m:Rd W' R q'):LStD w0 w R base g0 v0 v1 v2 v3 v4 W' q' g n c f:=by have h1:=h.hR;have h2:=h.hb;have l:=h.hbw;have h4:=h.lt;exact⟨h.bx.blk (b.block _ h.bx.lt (by omega)),h.rs.blk (b.block _ h.rs.lt (by omega)),m,gw h.own b (by omega),h.on.trans b,fun k o i j=>(b.block k (by omega) i).trans (h.same k o i j),h.gg,h.nm,h1,h2,l⟩
theorem LStD.below (h:LStD w0 w R base g0 v0 v1 v2 v3 v4 W q g n c f)(b:Below W.heap.size W W'):LStD w0 w R base g0 v0 v1 v2 v3 v4 W' q g n c f:=h.only (Only.of_below b) (h.rd.below b ly)
theorem LStD.gne (h:LStD w0 w R base g0 v0 v1 v2 v3 v4 W q g n c f):g≠w.heap.size/\g≠w.heap.size+1/\base<=g/\g<W.heap.size:=by
 obtain⟨hb,cs,b⟩:=Ff h.own;refine⟨fun e=>?_,fun e=>?_,hb,ai b⟩
 ·have:=h.bx
  unfold LBx at this;rw[<-e,b] at this;cases this
 ·have:=h.rs
  unfold LBx at this;rw[<-e,b] at this;cases this
theorem LStD.setL {k j:Nat}{y:Link}{u:QS}(h:LStD w0 w R base g0 v0 v1 v2 v3 v4 W q g n c f)(z:k<n)(C:j<4)(x:dV y=(dV (f k)).set j u)(s:y.name.size<=5000):LStD w0 w R base g0 v0 v1 v2 v3 v4 (W.setCell (T g (k*4+j) Z) u) q g n c (fun i=>if i=k then y else f i):=by
 obtain⟨B,A,t,e4⟩:=h.gne;have h1:=h.hR;have h2:=h.hb;have r:Below base W (W.setCell (T g (k*4+j) Z) u):=br.setCell (p:=(T g (k*4+j) Z)) t u;have far:∀ m,m≠g->(W.setCell (T g (k*4+j) Z) u).heap[m]?=W.heap[m]?:=fun m l=>qh W (T g (k*4+j) Z) u m (by simpa using l);refine⟨h.bx.blk (far _ (fun e=>B e.symm)),h.rs.blk (far _ (fun e=>A e.symm)),h.rd.low r (by omega),wP h.own z C x,h.on.then (r.mono h2),fun m l o b=>(far m ?_).trans (h.same m l o b),h.gg,fun i hi=>?_,h1,h2,h.hbw⟩
 ·rcases h.gg with e | e
  ·rw[e];exact b
  ·omega
 ·show(if i=k then y else f i).name.size<=5000
  split
  ·exact s
  ·exact h.nm i hi
theorem LStD.setB {b n1 c1:Nat}{f1:Nat->Link}(h:LStD w0 w R base g0 v0 v1 v2 v3 v4 W q g n c f)(i:W.grownBy W' (N g))(z:W'.ownsRow base 129 4 (Y (N (T b 0 Z)) n1 c1) n1 (bZ f1 n1))(B:b=g∨w.heap.size<=b)(hn:∀ j,j<n1->(f1 j).name.size<=5000):LStD w0 w R base g0 v0 v1 v2 v3 v4 (W'.setCell (T w.heap.size 5 Z) (Y (N (T b 0 Z)) n1 c1)) q b n1 c1 f1:=by
 obtain⟨E,C,A,e4⟩:=h.gne;have h1:=h.hR;have h2:=h.hb;have t:=h.hbw;have h4:=h.lt;have hw0:=h.on.size;have D:Below base W W':=bg br i (by omega) (fun j e=>by cases e;exact A);have x:Below base W (W'.setCell (T w.heap.size 5 Z) (Y (N (T b 0 Z)) n1 c1)):=D.setCell (p:=(T w.heap.size 5 Z)) t _;have o:LBx W' w.heap.size v0 v1 v2 v3 v4 (Y (N (T g 0 Z)) n c):=h.bx.blk (i.block _ h.bx.lt (by simpa using fun e=>E e.symm));have s:=h.rs.blk (i.block _ h.rs.lt (by simpa using fun e=>C e.symm));have far:∀ m,m≠w.heap.size->(W'.setCell (T w.heap.size 5 Z) (Y (N (T b 0 Z)) n1 c1)).heap[m]?=W'.heap[m]?:=fun m r=>qh W' (T w.heap.size 5 Z) _ m (by simpa using r);refine⟨o.set5 _,s.blk (far _ (by omega)),h.rd.low x (by omega),dP z o (by decide) _,h.on.then (x.mono h2),fun m r u l=>?_,?_,hn,h1,h2,t⟩
 ·refine(far m (by omega)).trans ((i.block m (by omega) ?_).trans (h.same m r u l))
  rcases h.gg with e | e
  ·simpa[e] using l
  ·intro y
   have:m=g:=by simpa using y
   omega
 ·rcases B with e | e
  ·rw[e];exact h.gg
  ·exact .inr e
end
theorem me (W:H)(r:Option Nat):W.grownBy W r:=⟨rfl,rfl,rfl,j5 _,fun _ _ _=>rfl⟩
theorem Fg {w0 w:H}{R p base g n c:Nat}{v0 v1 v2 v3 v4:QS}{f:Nat->Link}(m:Only R w0 w)(hR:R<w0.heap.size)(hb:w0.heap.size<=base)(hbw:base<=w.heap.size)(o:Rd w R p)(l:w.ownsRow base 129 4 (Y (N (T g 0 Z)) n c) n (bZ f n))(h:∀ j,j<n->(f j).name.size<=5000):LStD w0 w R base g v0 v1 v2 v3 v4 ((w.alloc (Q #[v0,v1,v2,v3,v4,Y (N (T g 0 Z)) n c] 46)).alloc (Q #[U ⟨#[]⟩,I J 0,I J 0,U ⟨#[]⟩,Y Z 0 0,Y Z 0 0] 46)) p g n c f:=by
 have i:=(q9 w).alloc ly (Q #[v0,v1,v2,v3,v4,Y (N (T g 0 Z)) n c] 46);have hz:(w.alloc (Q #[v0,v1,v2,v3,v4,Y (N (T g 0 Z)) n c] 46)).heap.size=w.heap.size+1:=by simp
 have b:=(eL (w.alloc (Q #[v0,v1,v2,v3,v4,Y (N (T g 0 Z)) n c] 46)).heap.size (w.alloc (Q #[v0,v1,v2,v3,v4,Y (N (T g 0 Z)) n c] 46))).alloc ly (Q #[U ⟨#[]⟩,I J 0,I J 0,U ⟨#[]⟩,Y Z 0 0,Y Z 0 0] 46);have A:=i.trans (b.mono i.size);have h2:=cM (w.alloc (Q #[v0,v1,v2,v3,v4,Y (N (T g 0 Z)) n c] 46)) (Q #[U ⟨#[]⟩,I J 0,I J 0,U ⟨#[]⟩,Y Z 0 0,Y Z 0 0] 46);rw[hz] at h2;exact⟨(b.block w.heap.size (by rw[hz];omega)).trans (cM w _),h2,o.below A ly,own_below l A ly,m.trans (Only.of_below A),fun k q _ _=>A.block k q,.inl rfl,h,hR,hb,hbw⟩
theorem LBx.six {W:H}{b:Nat}{u0 u1 u2 u3 u4 u5:QS}(h:LBx W b u0 u1 u2 u3 u4 u5)(v0 v1 v2 v3 v4 v5:QS):LBx ((((((W.setCell (T b 0 Z) v0).setCell (T b 1 Z) v1).setCell (T b 2 Z) v2).setCell (T b 3 Z) v3).setCell (T b 4 Z) v4).setCell (T b 5 Z) v5) b v0 v1 v2 v3 v4 v5:=by have c:W.heap[b]?=N (Q #[u0,u1,u2,u3,u4,u5] 46 (0,0)):=h;show((((((W.setCell (T b 0 Z) v0).setCell (T b 1 Z) v1).setCell (T b 2 Z) v2).setCell (T b 3 Z) v3).setCell (T b 4 Z) v4).setCell (T b 5 Z) v5).heap[b]?=_;simp[World.setCell,JR,c]
theorem qM (W:H)(b m:Nat)(v0 v1 v2 v3 v4 v5:QS)(c:m≠b):((((((W.setCell (T b 0 Z) v0).setCell (T b 1 Z) v1).setCell (T b 2 Z) v2).setCell (T b 3 Z) v3).setCell (T b 4 Z) v4).setCell (T b 5 Z) v5).heap[m]?=W.heap[m]?:=by have far:∀ (V:H) (j:Nat) (u:QS),(V.setCell (T b j Z) u).heap[m]?=V.heap[m]?:=fun V j u=>qh V (T b j Z) u m (by simpa using c);rw[far,far,far,far,far,far]
theorem rP (W:H)(b B:Nat)(v0 v1 v2 v3 v4 v5:QS)(c:B<=b):Below B W ((((((W.setCell (T b 0 Z) v0).setCell (T b 1 Z) v1).setCell (T b 2 Z) v2).setCell (T b 3 Z) v3).setCell (T b 4 Z) v4).setCell (T b 5 Z) v5) :=
 ((((((eL B W).setCell (p:=(T b 0 Z)) c v0).setCell (p:=(T b 1 Z)) c v1).setCell (p:=(T b 2 Z)) c v2).setCell (p:=(T b 3 Z)) c v3).setCell (p:=(T b 4 Z)) c v4).setCell (p:=(T b 5 Z)) c v5
def DL (QZ:Nat)(w0 w:H)(R base g0:Nat)(v0 v1 v2 v3 v4:QS)(q:Nat)(e:Ending)(b:H):Prop:=∃ (g n c:Nat) (f:Nat->Link),e=QU (QV #[v0,v1,v2,v3,v4,Y (N (T g 0 Z)) n c])/\b.ownsRow base 129 4 (Y (N (T g 0 Z)) n c) n (bZ f n)/\n<=QZ+1/\(∀ j,j<n->(f j).name.size<=5000)/\(∃ q':Nat,q'<=q/\Rd b R q')/\Only R w0 b/\∀ k,k<w.heap.size->k≠R->k≠g0->b.heap[k]?=w.heap[k]?
theorem LStD.fin {QZ:Nat}{w0 w W:H}{R base g0 q g n c Q0:Nat}{v0 v1 v2 v3 v4:QS}{f:Nat->Link}(h:LStD w0 w R base g0 v0 v1 v2 v3 v4 W q g n c f)(hn:n<=QZ+1)(o:q<=Q0)(u0 u1 u2 u3 u4 u5:QS):DL QZ w0 w R base g0 v0 v1 v2 v3 v4 Q0 (QU (QV #[v0,v1,v2,v3,v4,Y (N (T g 0 Z)) n c])) ((((((W.setCell (T (w.heap.size+1) 0 Z) u0).setCell (T (w.heap.size+1) 1 Z) u1).setCell (T (w.heap.size+1) 2 Z) u2).setCell (T (w.heap.size+1) 3 Z) u3).setCell (T (w.heap.size+1) 4 Z) u4).setCell (T (w.heap.size+1) 5 Z) u5):=by
 obtain⟨e1,m,e3,e4⟩:=h.gne;have h1:=h.hR;have h2:=h.hb;have h3:=h.hbw;have l:=rP W (w.heap.size+1) base u0 u1 u2 u3 u4 u5 (by omega);refine⟨g,n,c,f,rfl,ez h.own fun k b _=>qM _ _ _ _ _ _ _ _ _ ?_,hn,h.nm,⟨q,o,h.rd.low l (by omega)⟩,h.on.then (l.mono h2),fun k b j i=>(qM _ _ _ _ _ _ _ _ _ (by omega)).trans (h.same k b j i)⟩;have:k=g:=by simpa[Value.ownBlock] using b.symm
 rw[this];exact m
variable {K:Nat}
def atD (x:aj)(j:Nat)(z:Int):aj:={ x with links:=fun i=>if i=j then { x.links j with at_:=z } else x.links i }
theorem FitK.at_ {x:aj}(h:FitK K x){j:Nat}(b:j<x.linksN)(z:Int):FitK K (atD x j z):=by
 refine⟨h.nm,h.tx,h.an,h.asz,h.ln,fun i hi=>?_⟩;show(if i=j then { x.links j with at_:=z } else x.links i).name.size<=5000;split
 ·exact h.lsz j b
 ·exact h.lsz i hi
theorem SpS.lnk {w W:H}{R X q c i j f cl:Nat}{a:Option Addr}{D:List DR}{r:DR}(h:SpS K w R X W q a c D)(V:(D.map (·.2.2)).Pairwise Apt)(M:D[i]?=N r)(C:r.2.2=Y (N (T f 0 Z)) r.1.linksN cl)(P:j<r.1.linksN)(z:Int):SpS K w R X (W.setCell (T f (j*4+3) Z) (I J z)) q a c (D.set i (atD r.1 j z,r.2)):=by
 have y:=IF M;have hlo:=h.lo;have hX:=h.hX;have hn:(D.set i (atD r.1 j z,r.2)).length=D.length:=JO;obtain⟨cl2,zl,G⟩:=fO (h.row.sub r y).lnk f (by rw[C];rfl);have S:w.heap.size+2<=f:=((h.row.sub r y).lnk.lt f (by rw[C];rfl)).1;have O:X≠f:=fun e=>by have:=h.bx;rw[e,G] at this;simp at this
 have B:=(eL (w.heap.size+2) W).setCell (p:=(T f (j*4+3) Z)) S (I J z);have far:∀ m,m≠f->(W.setCell (T f (j*4+3) Z) (I J z)).heap[m]?=W.heap[m]?:=fun m g=>qh _ _ _ _ g;have Q9:∀ m e,OfTy W m e->e≠129->m≠f:=fun m e n QX t=>by obtain⟨c0,z0,l⟩:=n;rw[t,G] at l;simp at l;exact QX l.2.1.symm
 have Q0:(D.set i (atD r.1 j z,r.2)).flatMap ddV=D.flatMap ddV:=by
  have e:∀ (L:List DR) (i:Nat),L[i]?=N r->(L.set i (atD r.1 j z,r.2)).flatMap ddV=L.flatMap ddV:=by
   intro L;induction L with
   | nil=>intro i l;simp at l
   | cons x L ih =>
    intro i l;cases i with
    | zero =>
     obtain rfl:x=r:=by simpa using l
     rfl
    | succ i =>
     have h1:L[i]?=N r:=by simpa using l
     rw[N9,JU,JU,ih i h1]
  exact e D i M
 refine⟨h.rd.low B (by omega),h.o.then (B.mono (by omega)),(B.block _ (by omega)).trans h.rs,?_,⟨?_,fun s QW=>?_⟩,nO h.fit ((h.fit r y).at_ P z),h.lo,h.hX,by rw[hn];exact h.num⟩
 ·rw[hn]
  exact(far X O).trans h.bx
 ·rw[hn,Q0]
  exact ez h.row.own fun m _ n=>far m (Q9 m _ n (by decide))
 ·obtain⟨k,hi⟩:=KU QW
  by_cases e:k=i
  ·subst e
   rw[KL (by rw[<-hn];exact(gM.1 hi).1)] at hi;obtain rfl:=ES hi;refine⟨ez (h.row.sub r y).act fun m _ n=>far m (Q9 m _ n (by decide)),?_⟩;have QY:=(h.row.sub r y).lnk;show World.ownsRow _ _ _ _ r.2.2 r.1.linksN (bZ (atD r.1 j z).links r.1.linksN);rw[C] at QY ⊢;exact wP QY P (by omega) rfl
  ·rw[LZ (fun t=>e t.symm)] at hi
   have QZ:=IF hi;refine(h.row.sub s QZ).far (fun m _ n=>far m (Q9 m _ n (by decide))) (fun m g _=>far m fun t=>?_);obtain⟨ZA,E⟩:=gM.1 hi;obtain⟨ZB,F⟩:=gM.1 M;have A:r.2.2.ownBlock=N f:=by rw[C];rfl
   have Q2:=DC.1 V;rcases Nat.lt_or_gt_of_ne e with u | u
   ·have b:=Q2 k i (by simpa using ZA) (by simpa using ZB) u
    rw[M2,M2,E,F] at b;rcases b with b | b
    ·rw[g] at b;cases b
    ·exact b (by rw[g,A,t])
   ·have b:=Q2 i k (by simpa using ZB) (by simpa using ZA) u
    rw[M2,M2,E,F] at b;rcases b with b | b
    ·rw[A] at b;cases b
    ·exact b (by rw[g,A,t])
theorem Du {D:List DR}{i:Nat}{r:DR}(b:D[i]?=N r)(x:aj):(D.set i (x,r.2)).map (·.2)=D.map (·.2):=by
 rw[List.map_set];refine NM fun k=>?_;by_cases e:k=i
 ·subst e
  rw[KL (by rw[KO];exact(gM.1 b).1),IN,b];rfl
 ·rw[LZ (fun c=>e c.symm)]
theorem SpS.aside {w W:H}{R X q c g b:Nat}{D:List DR}{p:Array QS}{z:Nat × Nat}(h:SpS K w R X W q (N (T g 0 Z)) c D)(hb:w.heap.size+2<=b)(hX:b≠X)(u:b≠g)(hF:W.heap[b]?=N (Q p 46 z))(v0 v1 v2 v3 v4 v5:QS):SpS K w R X ((((((W.setCell (T b 0 Z) v0).setCell (T b 1 Z) v1).setCell (T b 2 Z) v2).setCell (T b 3 Z) v3).setCell (T b 4 Z) v4).setCell (T b 5 Z) v5) q (N (T g 0 Z)) c D:=by
 have hlo:=h.lo;have B:=rP W b (w.heap.size+2) v0 v1 v2 v3 v4 v5 hb;have far:=fun m=>qM W b m v0 v1 v2 v3 v4 v5;have j:∀ m e,OfTy W m e->e≠46->m≠b:=fun m e f l n=>by obtain⟨c0,z0,i⟩:=f;rw[n,hF] at i;simp at i;exact l i.2.1.symm
 refine⟨h.rd.low B (by omega),h.o.then (B.mono (by omega)),(B.block _ (by omega)).trans h.rs,(far X (fun e=>hX e.symm)).trans h.bx,⟨ez h.row.own fun m r _=>?_,fun s t=>(h.row.sub s t).far (fun m _ f=>far m (j m _ f (by decide))) (fun m _ f=>far m (j m _ f (by decide)))⟩,h.fit,h.lo,h.hX,h.num⟩;obtain rfl:g=m:=by simpa[Value.ownBlock] using r
 exact far g (fun e=>u e.symm)
def mf (nm tx:ByteArray)(b:Int):DR:=({ fq with name:=nm,kind:=b,text:=tx },Y Z 0 0,Y Z 0 0)
theorem uw {nm tx:ByteArray}(c:Int)(h1:nm.size<=5000)(h2:tx.size<=2000+K):FitK K (mf nm tx c).1:=⟨h1,h2,AI _,fun j b=>absurd b (by simp[mf,fq]),AI _,fun j b=>absurd b (by simp[mf,fq])⟩
theorem Dv (w:H)(base:Nat)(nm tx:ByteArray)(b:Int):DSub w base (mf nm tx b):=⟨CP _ _ _ _,CP _ _ _ _⟩
theorem Ga {D:List DR}(h:D.Pairwise fun a b=>Apt a.2.1 b.2.1/\Apt a.2.2 b.2.2)(nm tx:ByteArray)(c:Int):((mf nm tx c :: D).map (·.2.2)).Pairwise Apt:=by rw[NV,KQ];exact⟨fun x _=>.inl rfl,List.pairwise_map.2 (h.imp fun h=>h.2)⟩
def yH:Prop:=∀ (m:Nat) (w:H),m<=61->Calls Tryz.prog 80 #[I J m] w fun e b=>∃ (a:Option Addr) (n c:Nat) (f:Nat->aj),e=QU (QV #[Y a n c])/\HAc w.heap.size b a n c f/\Below w.heap.size w b/\n<=450/\∀ i,i<n->FitK 0 (f i)
theorem SpS.other {w W W':H}{R X q c g b Q0:Nat}{a f:Option Addr}{D:List DR}{j:Nat->aj}(h:SpS K w R X W q a c D)(r:Below W.heap.size W W')(hH:HAc W.heap.size W' f b g j)(hn:b<=450)(s:∀ i,i<b->FitK 0 (j i))(n:q<=Q0):DAK K w R Q0 (QU (QV #[Y f b g])) (W'.setCell (T (w.heap.size+1) 0 Z) (Y f b g)):=by
 have l:=h.below r;have hl:=h.lo;have hx:=h.lt;have hX:=h.hX;have B:=(eL w.heap.size W').setCell (p:=(T (w.heap.size+1) 0 Z)) (vF _) (Y f b g);have m:Agr W.heap.size W' (W'.setCell (T (w.heap.size+1) 0 Z) (Y f b g)):=⟨by simp,fun k h1 _=>qh _ _ _ _ (by show k≠w.heap.size+1;omega)⟩
 exact⟨f,b,g,j,rfl,(hH.agr m).mono (by omega),⟨q,n,l.rd.low B h.lo,l.o.then B⟩,by omega,fun i hi=>(s i hi).up (AI _)⟩
end Go.Proofs.YtamacmnikdejeaaGreatDoor.Vp
