import Derived.Test.YtkophfgkcijjkaaGreatDoorXG
import Derived.Deep.AppendLies
namespace Go.Proofs.YtkophfgkcijjkaaGreatDoor.Vp
open RowKit Ca
def LBx (W:World)(b:Nat)(v0 v1 v2 v3 v4 v5:Value):Prop:=W.heap[b]?=some (.cells #[v0,v1,v2,v3,v4,v5] 67 (0,0))
section
variable {W W':World}{b:Nat}{v0 v1 v2 v3 v4 v5:Value}
theorem LBx.lt (h:LBx W b v0 v1 v2 v3 v4 v5):b<W.heap.size:=au h
theorem LBx.cells (h:LBx W b v0 v1 v2 v3 v4 v5):W.cell? ⟨b,0,none⟩=some v0/\W.cell? ⟨b,1,none⟩=some v1/\W.cell? ⟨b,2,none⟩=some v2/\W.cell? ⟨b,3,none⟩=some v3/\W.cell? ⟨b,4,none⟩=some v4/\W.cell? ⟨b,5,none⟩=some v5:=by have c:W.heap[b]?=some (.cells #[v0,v1,v2,v3,v4,v5] 67 (0,0)):=h;refine⟨?_,?_,?_,?_,?_,?_⟩<;>simp[World.cell?,c]
theorem LBx.fz (h:LBx W b v0 v1 v2 v3 v4 v5)(j:Nat):W.frozen? ⟨b,j,none⟩=false:=by have c:W.heap[b]?=some (.cells #[v0,v1,v2,v3,v4,v5] 67 (0,0)):=h;simp[World.frozen?,c]
theorem LBx.blk (h:LBx W b v0 v1 v2 v3 v4 v5)(e:W'.heap[b]?=W.heap[b]?):LBx W' b v0 v1 v2 v3 v4 v5:=e.trans h
theorem LBx.set5 (h:LBx W b v0 v1 v2 v3 v4 v5)(u:Value):LBx (W.setCell ⟨b,5,none⟩ u) b v0 v1 v2 v3 v4 u:=by have c:W.heap[b]?=some (.cells #[v0,v1,v2,v3,v4,v5] 67 (0,0)):=h;show(W.setCell ⟨b,5,none⟩ u).heap[b]?=_;simp[World.setCell,Array.getElem?_modify,c]
end
theorem uW {b:Type}(f:Nat->b)(n k:Nat)(y:b):((List.range n).map f).set k y=(List.range n).map (fun i=>if i=k then y else f i):=by
 refine List.ext_getElem? fun i=>?_;rw[List.getElem?_set,List.getElem?_map,List.getElem?_map];by_cases hi:i<n
 ·by_cases e:k=i
  ·subst e
   simp[hi]
  ·have c:¬ i=k:=fun h=>e h.symm
   simp[hi,e,c]
 ·by_cases e:k=i
  ·subst e
   simp[hi]
  ·simp[hi,e]
theorem sf {w:World}{base g n c k j:Nat}{f:Nat->Link}{y:Link}{u:Value}(h:w.ownsRow base 73 4 (.slice (some ⟨g,0,none⟩) n c) n (bJ f n))(l:k<n)(m:j<4)(d:cS y=(cS (f k)).set j u):(w.setCell ⟨g,k*4+j,none⟩ u).ownsRow base 73 4 (.slice (some ⟨g,0,none⟩) n c) n (bJ (fun i=>if i=k then y else f i) n):=by have b:=ix (j:=k*4+j) h u;have e:=iA cS 4 (fun _=>rfl) m d ((List.range n).map f) k (by simp[l]);rw[uW] at e;unfold bJ at b ⊢;rw[e] at b;exact b
theorem cA {w:World}{base g n c k j:Nat}{f:Nat->Link}{u:Value}(h:w.ownsRow base 73 4 (.slice (some ⟨g,0,none⟩) n c) n (bJ f n))(b:k<n)(d:j<4)(i:(cS (f k))[j]?=some u):w.cell? ⟨g,k*4+j,none⟩=some u/\w.frozen? ⟨g,k*4+j,none⟩=false :=
 bA h (j:=k*4+j) (by rw[gQ f b j d];exact i)
theorem yt {w:World}{base size n g c:Nat}{e:TypeId}{f:List Value}(h:w.ownsRow base e size (.slice (some ⟨g,0,none⟩) n c) n f):base<=g/\∃ d,w.heap[g]?=some (.cells d e (0,0)):=by
 rcases h.2 with ⟨b,_⟩ | ⟨g',cap,cur,b,hb,i,_⟩
 ·cases b
 ·cases b
  exact⟨hb,_,i⟩
structure LStD (w0 w:World)(R base g0:Nat)(v0 v1 v2 v3 v4:Value)(W:World)(q g n c:Nat)(f:Nat->Link):Prop where
 bx:LBx W w.heap.size v0 v1 v2 v3 v4 (.slice (some ⟨g,0,none⟩) n c)
 rs:LBx W (w.heap.size+1) (.string ⟨#[]⟩) (.int .i64 0) (.int .i64 0) (.string ⟨#[]⟩) (.slice none 0 0) (.slice none 0 0)
 rd:Rd W R q
 own:W.ownsRow base 73 4 (.slice (some ⟨g,0,none⟩) n c) n (bJ f n)
 on:Only R w0 W
 same:∀ k,k<w.heap.size->k≠R->k≠g0->W.heap[k]?=w.heap[k]?
 gg:g=g0∨w.heap.size<=g
 nm:∀ j,j<n->(f j).name.size<=5000
 hR:R<w0.heap.size
 hb:w0.heap.size<=base
 hbw:base<=w.heap.size
section
variable {w0 w W W':World}{R base g0 q q' g n c:Nat}{v0 v1 v2 v3 v4:Value}{f:Nat->Link}
theorem LStD.lt (h:LStD w0 w R base g0 v0 v1 v2 v3 v4 W q g n c f):w.heap.size+2<=W.heap.size:=h.rs.lt
theorem LStD.only (h:LStD w0 w R base g0 v0 v1 v2 v3 v4 W q g n c f)(b:Only R W W')(l:Rd W' R q'):LStD w0 w R base g0 v0 v1 v2 v3 v4 W' q' g n c f:=by have p:=h.hR;have m:=h.hb;have j:=h.hbw;have h4:=h.lt;exact⟨h.bx.blk (b.block _ h.bx.lt (by omega)),h.rs.blk (b.block _ h.rs.lt (by omega)),l,fh h.own b (by omega),h.on.trans b,fun k o d i=>(b.block k (by omega) d).trans (h.same k o d i),h.gg,h.nm,p,m,j⟩
theorem LStD.below (h:LStD w0 w R base g0 v0 v1 v2 v3 v4 W q g n c f)(b:Below W.heap.size W W'):LStD w0 w R base g0 v0 v1 v2 v3 v4 W' q g n c f:=h.only (Only.of_below b) (h.rd.below b ly)
theorem LStD.gne (h:LStD w0 w R base g0 v0 v1 v2 v3 v4 W q g n c f):g≠w.heap.size/\g≠w.heap.size+1/\base<=g/\g<W.heap.size:=by
 obtain⟨hb,cs,b⟩:=yt h.own;refine⟨fun e=>?_,fun e=>?_,hb,au b⟩
 ·have:=h.bx
  unfold LBx at this;rw[<-e,b] at this;cases this
 ·have:=h.rs
  unfold LBx at this;rw[<-e,b] at this;cases this
theorem LStD.setL {k j:Nat}{y:Link}{u:Value}(h:LStD w0 w R base g0 v0 v1 v2 v3 v4 W q g n c f)(B:k<n)(D:j<4)(z:cS y=(cS (f k)).set j u)(t:y.name.size<=5000):LStD w0 w R base g0 v0 v1 v2 v3 v4 (W.setCell ⟨g,k*4+j,none⟩ u) q g n c (fun i=>if i=k then y else f i):=by
 obtain⟨s,x,A,e4⟩:=h.gne;have C:=h.hR;have l:=h.hb;have o:Below base W (W.setCell ⟨g,k*4+j,none⟩ u):=br.setCell (p:=⟨g,k*4+j,none⟩) A u;have far:∀ m,m≠g->(W.setCell ⟨g,k*4+j,none⟩ u).heap[m]?=W.heap[m]?:=fun m d=>qh W ⟨g,k*4+j,none⟩ u m (by simpa using d);refine⟨h.bx.blk (far _ (fun e=>s e.symm)),h.rs.blk (far _ (fun e=>x e.symm)),h.rd.low o (by omega),sf h.own B D z,h.on.then (o.mono l),fun m d r b=>(far m ?_).trans (h.same m d r b),h.gg,fun i hi=>?_,C,l,h.hbw⟩
 ·rcases h.gg with e | e
  ·rw[e];exact b
  ·omega
 ·show(if i=k then y else f i).name.size<=5000
  split
  ·exact t
  ·exact h.nm i hi
theorem LStD.setB {b n1 c1:Nat}{f1:Nat->Link}(h:LStD w0 w R base g0 v0 v1 v2 v3 v4 W q g n c f)(d:W.grownBy W' (some g))(E:W'.ownsRow base 73 4 (.slice (some ⟨b,0,none⟩) n1 c1) n1 (bJ f1 n1))(z:b=g∨w.heap.size<=b)(hn:∀ j,j<n1->(f1 j).name.size<=5000):LStD w0 w R base g0 v0 v1 v2 v3 v4 (W'.setCell ⟨w.heap.size,5,none⟩ (.slice (some ⟨b,0,none⟩) n1 c1)) q b n1 c1 f1:=by
 obtain⟨x,A,C,e4⟩:=h.gne;have D:=h.hR;have s:=h.hb;have o:=h.hbw;have h4:=h.lt;have hw0:=h.on.size;have B:Below base W W':=bg br d (by omega) (fun j e=>by cases e;exact C);have u:Below base W (W'.setCell ⟨w.heap.size,5,none⟩ (.slice (some ⟨b,0,none⟩) n1 c1)):=B.setCell (p:=⟨w.heap.size,5,none⟩) o _;have i:LBx W' w.heap.size v0 v1 v2 v3 v4 (.slice (some ⟨g,0,none⟩) n c):=h.bx.blk (d.block _ h.bx.lt (by simpa using fun e=>x e.symm));have r:=h.rs.blk (d.block _ h.rs.lt (by simpa using fun e=>A e.symm));have far:∀ m,m≠w.heap.size->(W'.setCell ⟨w.heap.size,5,none⟩ (.slice (some ⟨b,0,none⟩) n1 c1)).heap[m]?=W'.heap[m]?:=fun m l=>qh W' ⟨w.heap.size,5,none⟩ _ m (by simpa using l);refine⟨i.set5 _,r.blk (far _ (by omega)),h.rd.low u (by omega),ek E i (by decide) _,h.on.then (u.mono s),fun m l t k=>?_,?_,hn,D,s,o⟩
 ·refine(far m (by omega)).trans ((d.block m (by omega) ?_).trans (h.same m l t k))
  rcases h.gg with e | e
  ·simpa[e] using k
  ·intro y
   have:m=g:=by simpa using y
   omega
 ·rcases z with e | e
  ·rw[e];exact h.gg
  ·exact .inr e
end
theorem jx (W:World)(r:Option Nat):W.grownBy W r:=⟨rfl,rfl,rfl,Nat.le_refl _,fun _ _ _=>rfl⟩
theorem yu {w0 w:World}{R p base g n c:Nat}{v0 v1 v2 v3 v4:Value}{f:Nat->Link}(q:Only R w0 w)(hR:R<w0.heap.size)(hb:w0.heap.size<=base)(hbw:base<=w.heap.size)(m:Rd w R p)(i:w.ownsRow base 73 4 (.slice (some ⟨g,0,none⟩) n c) n (bJ f n))(l:∀ j,j<n->(f j).name.size<=5000):LStD w0 w R base g v0 v1 v2 v3 v4 ((w.alloc (.cells #[v0,v1,v2,v3,v4,.slice (some ⟨g,0,none⟩) n c] 67)).alloc (.cells #[.string ⟨#[]⟩,.int .i64 0,.int .i64 0,.string ⟨#[]⟩,.slice none 0 0,.slice none 0 0] 67)) p g n c f:=by
 have b:=(q9 w).alloc ly (.cells #[v0,v1,v2,v3,v4,.slice (some ⟨g,0,none⟩) n c] 67);have hz:(w.alloc (.cells #[v0,v1,v2,v3,v4,.slice (some ⟨g,0,none⟩) n c] 67)).heap.size=w.heap.size+1:=by simp
 have d:=(Below.refl (w.alloc (.cells #[v0,v1,v2,v3,v4,.slice (some ⟨g,0,none⟩) n c] 67)).heap.size (w.alloc (.cells #[v0,v1,v2,v3,v4,.slice (some ⟨g,0,none⟩) n c] 67))).alloc ly (.cells #[.string ⟨#[]⟩,.int .i64 0,.int .i64 0,.string ⟨#[]⟩,.slice none 0 0,.slice none 0 0] 67);have A:=b.trans (d.mono b.size);have h:=heap_alloc_new (w.alloc (.cells #[v0,v1,v2,v3,v4,.slice (some ⟨g,0,none⟩) n c] 67)) (.cells #[.string ⟨#[]⟩,.int .i64 0,.int .i64 0,.string ⟨#[]⟩,.slice none 0 0,.slice none 0 0] 67);rw[hz] at h;exact⟨(d.block w.heap.size (by rw[hz];omega)).trans (heap_alloc_new w _),h,m.below A ly,own_below i A ly,q.trans (Only.of_below A),fun k o _ _=>A.block k o,.inl rfl,l,hR,hb,hbw⟩
theorem LBx.six {W:World}{b:Nat}{u0 u1 u2 u3 u4 u5:Value}(h:LBx W b u0 u1 u2 u3 u4 u5)(v0 v1 v2 v3 v4 v5:Value):LBx ((((((W.setCell ⟨b,0,none⟩ v0).setCell ⟨b,1,none⟩ v1).setCell ⟨b,2,none⟩ v2).setCell ⟨b,3,none⟩ v3).setCell ⟨b,4,none⟩ v4).setCell ⟨b,5,none⟩ v5) b v0 v1 v2 v3 v4 v5:=by have c:W.heap[b]?=some (.cells #[u0,u1,u2,u3,u4,u5] 67 (0,0)):=h;show((((((W.setCell ⟨b,0,none⟩ v0).setCell ⟨b,1,none⟩ v1).setCell ⟨b,2,none⟩ v2).setCell ⟨b,3,none⟩ v3).setCell ⟨b,4,none⟩ v4).setCell ⟨b,5,none⟩ v5).heap[b]?=_;simp[World.setCell,Array.getElem?_modify,c]
theorem ng (W:World)(b m:Nat)(v0 v1 v2 v3 v4 v5:Value)(c:m≠b):((((((W.setCell ⟨b,0,none⟩ v0).setCell ⟨b,1,none⟩ v1).setCell ⟨b,2,none⟩ v2).setCell ⟨b,3,none⟩ v3).setCell ⟨b,4,none⟩ v4).setCell ⟨b,5,none⟩ v5).heap[m]?=W.heap[m]?:=by have far:∀ (V:World) (j:Nat) (u:Value),(V.setCell ⟨b,j,none⟩ u).heap[m]?=V.heap[m]?:=fun V j u=>qh V ⟨b,j,none⟩ u m (by simpa using c);rw[far,far,far,far,far,far]
theorem nY (W:World)(b B:Nat)(v0 v1 v2 v3 v4 v5:Value)(c:B<=b):Below B W ((((((W.setCell ⟨b,0,none⟩ v0).setCell ⟨b,1,none⟩ v1).setCell ⟨b,2,none⟩ v2).setCell ⟨b,3,none⟩ v3).setCell ⟨b,4,none⟩ v4).setCell ⟨b,5,none⟩ v5) :=
 ((((((Below.refl B W).setCell (p:=⟨b,0,none⟩) c v0).setCell (p:=⟨b,1,none⟩) c v1).setCell (p:=⟨b,2,none⟩) c v2).setCell (p:=⟨b,3,none⟩) c v3).setCell (p:=⟨b,4,none⟩) c v4).setCell (p:=⟨b,5,none⟩) c v5
def DL (w0 w:World)(R base g0:Nat)(v0 v1 v2 v3 v4:Value)(q:Nat)(e:Ending)(b:World):Prop:=∃ (g n c:Nat) (f:Nat->Link),e=.returned (.agg #[v0,v1,v2,v3,v4,.slice (some ⟨g,0,none⟩) n c])/\b.ownsRow base 73 4 (.slice (some ⟨g,0,none⟩) n c) n (bJ f n)/\n<=201/\(∀ j,j<n->(f j).name.size<=5000)/\(∃ q':Nat,q'<=q/\Rd b R q')/\Only R w0 b/\∀ k,k<w.heap.size->k≠R->k≠g0->b.heap[k]?=w.heap[k]?
theorem LStD.fin {w0 w W:World}{R base g0 q g n c Q:Nat}{v0 v1 v2 v3 v4:Value}{f:Nat->Link}(h:LStD w0 w R base g0 v0 v1 v2 v3 v4 W q g n c f)(hn:n<=201)(o:q<=Q)(u0 u1 u2 u3 u4 u5:Value):DL w0 w R base g0 v0 v1 v2 v3 v4 Q (.returned (.agg #[v0,v1,v2,v3,v4,.slice (some ⟨g,0,none⟩) n c])) ((((((W.setCell ⟨w.heap.size+1,0,none⟩ u0).setCell ⟨w.heap.size+1,1,none⟩ u1).setCell ⟨w.heap.size+1,2,none⟩ u2).setCell ⟨w.heap.size+1,3,none⟩ u3).setCell ⟨w.heap.size+1,4,none⟩ u4).setCell ⟨w.heap.size+1,5,none⟩ u5):=by
 obtain⟨e1,l,e3,e4⟩:=h.gne;have h1:=h.hR;have m:=h.hb;have h3:=h.hbw;have j:=nY W (w.heap.size+1) base u0 u1 u2 u3 u4 u5 (by omega);refine⟨g,n,c,f,rfl,dJ h.own fun k b _=>ng _ _ _ _ _ _ _ _ _ ?_,hn,h.nm,⟨q,o,h.rd.low j (by omega)⟩,h.on.then (j.mono m),fun k b i d=>(ng _ _ _ _ _ _ _ _ _ (by omega)).trans (h.same k b i d)⟩;have:k=g:=by simpa[Value.ownBlock] using b.symm
 rw[this];exact l
def atD (x:ar)(j:Nat)(z:Int):ar:={ x with links:=fun i=>if i=j then { x.links j with at_:=z } else x.links i }
theorem FitD.at_ {x:ar}(h:FitD x){j:Nat}(b:j<x.linksN)(z:Int):FitD (atD x j z):=by
 refine⟨h.nm,h.tx,h.an,h.asz,h.ln,fun i hi=>?_⟩;show(if i=j then { x.links j with at_:=z } else x.links i).name.size<=5000;split
 ·exact h.lsz j b
 ·exact h.lsz i hi
theorem SpS.lnk {w W:World}{R X q c i j d V:Nat}{a:Option Addr}{D:List DR}{r:DR}(h:SpS w R X W q a c D)(N:(D.map (·.2.2)).Pairwise Apt)(J:D[i]?=some r)(A:r.2.2=.slice (some ⟨d,0,none⟩) r.1.linksN V)(T:j<r.1.linksN)(z:Int):SpS w R X (W.setCell ⟨d,j*4+3,none⟩ (.int .i64 z)) q a c (D.set i (atD r.1 j z,r.2)):=by
 have t:=List.mem_of_getElem? J;have hlo:=h.lo;have hX:=h.hX;have hn:(D.set i (atD r.1 j z,r.2)).length=D.length:=List.length_set;obtain⟨cl2,zl,C⟩:=eJ (h.row.sub r t).lnk d (by rw[A];rfl);have S:w.heap.size+2<=d:=((h.row.sub r t).lnk.lt d (by rw[A];rfl)).1;have M:X≠d:=fun e=>by have:=h.bx;rw[e,C] at this;simp at this
 have B:=(Below.refl (w.heap.size+2) W).setCell (p:=⟨d,j*4+3,none⟩) S (.int .i64 z);have far:∀ m,m≠d->(W.setCell ⟨d,j*4+3,none⟩ (.int .i64 z)).heap[m]?=W.heap[m]?:=fun m g=>qh _ _ _ _ g;have K:∀ m e,OfTy W m e->e≠73->m≠d:=fun m e l Y n=>by obtain⟨c0,z0,f⟩:=l;rw[n,C] at f;simp at f;exact Y f.2.1.symm
 have P:(D.set i (atD r.1 j z,r.2)).flatMap ddV=D.flatMap ddV:=by
  have e:∀ (L:List DR) (i:Nat),L[i]?=some r->(L.set i (atD r.1 j z,r.2)).flatMap ddV=L.flatMap ddV:=by
   intro L;induction L with
   | nil=>intro i f;simp at f
   | cons x L Z =>
    intro i f;cases i with
    | zero =>
     obtain rfl:x=r:=by simpa using f
     rfl
    | succ i =>
     have h1:L[i]?=some r:=by simpa using f
     rw[List.set_cons_succ,List.flatMap_cons,List.flatMap_cons,Z i h1]
  exact e D i J
 refine⟨h.rd.low B (by omega),h.o.then (B.mono (by omega)),(B.block _ (by omega)).trans h.rs,?_,⟨?_,fun s hs=>?_⟩,kw h.fit ((h.fit r t).at_ T z),h.lo,h.hX,by rw[hn];exact h.num⟩
 ·rw[hn]
  exact(far X M).trans h.bx
 ·rw[hn,P]
  exact dJ h.row.own fun m _ l=>far m (K m _ l (by decide))
 ·obtain⟨k,hi⟩:=List.getElem?_of_mem hs
  by_cases e:k=i
  ·subst e
   rw[List.getElem?_set_self (by rw[<-hn];exact(List.getElem?_eq_some_iff.1 hi).1)] at hi;obtain rfl:=Option.some.inj hi;refine⟨dJ (h.row.sub r t).act fun m _ l=>far m (K m _ l (by decide)),?_⟩;have U:=(h.row.sub r t).lnk;show World.ownsRow _ _ _ _ r.2.2 r.1.linksN (bJ (atD r.1 j z).links r.1.linksN);rw[A] at U ⊢;exact sf U T (by omega) rfl
  ·rw[List.getElem?_set_ne (fun n=>e n.symm)] at hi
   have Q:=List.mem_of_getElem? hi;refine(h.row.sub s Q).far (fun m _ l=>far m (K m _ l (by decide))) (fun m g _=>far m fun n=>?_);obtain⟨H,I⟩:=List.getElem?_eq_some_iff.1 hi;obtain⟨G,E⟩:=List.getElem?_eq_some_iff.1 J;have y:r.2.2.ownBlock=some d:=by rw[A];rfl
   have O:=List.pairwise_iff_getElem.1 N;rcases Nat.lt_or_gt_of_ne e with u | u
   ·have b:=O k i (by simpa using H) (by simpa using G) u
    rw[List.getElem_map,List.getElem_map,I,E] at b;rcases b with b | b
    ·rw[g] at b;cases b
    ·exact b (by rw[g,y,n])
   ·have b:=O i k (by simpa using G) (by simpa using H) u
    rw[List.getElem_map,List.getElem_map,I,E] at b;rcases b with b | b
    ·rw[y] at b;cases b
    ·exact b (by rw[g,y,n])
theorem xf {D:List DR}{i:Nat}{r:DR}(b:D[i]?=some r)(x:ar):(D.set i (x,r.2)).map (·.2)=D.map (·.2):=by
 rw[List.map_set];refine List.ext_getElem? fun k=>?_;by_cases e:k=i
 ·subst e
  rw[List.getElem?_set_self (by rw[List.length_map];exact(List.getElem?_eq_some_iff.1 b).1),List.getElem?_map,b];rfl
 ·rw[List.getElem?_set_ne (fun c=>e c.symm)]
theorem SpS.aside {w W:World}{R X q c g b:Nat}{D:List DR}{r:Array Value}{z:Nat × Nat}(h:SpS w R X W q (some ⟨g,0,none⟩) c D)(hb:w.heap.size+2<=b)(hX:b≠X)(l:b≠g)(hF:W.heap[b]?=some (.cells r 67 z))(v0 v1 v2 v3 v4 v5:Value):SpS w R X ((((((W.setCell ⟨b,0,none⟩ v0).setCell ⟨b,1,none⟩ v1).setCell ⟨b,2,none⟩ v2).setCell ⟨b,3,none⟩ v3).setCell ⟨b,4,none⟩ v4).setCell ⟨b,5,none⟩ v5) q (some ⟨g,0,none⟩) c D:=by
 have hlo:=h.lo;have B:=nY W b (w.heap.size+2) v0 v1 v2 v3 v4 v5 hb;have far:=fun m=>ng W b m v0 v1 v2 v3 v4 v5;have i:∀ m e,OfTy W m e->e≠67->m≠b:=fun m e d p k=>by obtain⟨c0,z0,f⟩:=d;rw[k,hF] at f;simp at f;exact p f.2.1.symm
 refine⟨h.rd.low B (by omega),h.o.then (B.mono (by omega)),(B.block _ (by omega)).trans h.rs,(far X (fun e=>hX e.symm)).trans h.bx,⟨dJ h.row.own fun m j _=>?_,fun s n=>(h.row.sub s n).far (fun m _ d=>far m (i m _ d (by decide))) (fun m _ d=>far m (i m _ d (by decide)))⟩,h.fit,h.lo,h.hX,h.num⟩;obtain rfl:g=m:=by simpa[Value.ownBlock] using j
 exact far g (fun e=>l e.symm)
def jy (nm tx:ByteArray)(b:Int):DR:=({ fw with name:=nm,kind:=b,text:=tx },.slice none 0 0,.slice none 0 0)
theorem qj {nm tx:ByteArray}(c:Int)(d:nm.size<=5000)(f:tx.size<=5000):FitD (jy nm tx c).1:=⟨d,f,Nat.zero_le _,fun j b=>absurd b (by simp[jy,fw]),Nat.zero_le _,fun j b=>absurd b (by simp[jy,fw])⟩
theorem xg (w:World)(base:Nat)(nm tx:ByteArray)(b:Int):DSub w base (jy nm tx b):=⟨World.ownsRow_nil _ _ _ _,World.ownsRow_nil _ _ _ _⟩
theorem yU {D:List DR}(h:D.Pairwise fun a b=>Apt a.2.1 b.2.1/\Apt a.2.2 b.2.2)(nm tx:ByteArray)(c:Int):((jy nm tx c :: D).map (·.2.2)).Pairwise Apt:=by rw[List.map_cons,List.pairwise_cons];exact⟨fun x _=>.inl rfl,List.pairwise_map.2 (h.imp fun h=>h.2)⟩
def xB:Prop:=∀ (m:Nat) (w:World),m<=61->Calls Tryz.prog 209 #[.int .i64 m] w fun e b=>∃ (a:Option Addr) (n c:Nat) (f:Nat->ar),e=.returned (.agg #[.slice a n c])/\HAc w.heap.size b a n c f/\Below w.heap.size w b
theorem SpS.other {w W W':World}{R X q c b f Q:Nat}{a d:Option Addr}{D:List DR}{i:Nat->ar}(h:SpS w R X W q a c D)(l:Below W.heap.size W W')(hH:HAc W.heap.size W' d f b i)(j:q<=Q):DA w R Q (.returned (.agg #[.slice d f b])) (W'.setCell ⟨w.heap.size+1,0,none⟩ (.slice d f b)):=by
 have g:=h.below l;have hl:=h.lo;have hx:=h.lt;have hX:=h.hX;have B:=(Below.refl w.heap.size W').setCell (p:=⟨w.heap.size+1,0,none⟩) (Nat.le_succ _) (.slice d f b);have m:Agr W.heap.size W' (W'.setCell ⟨w.heap.size+1,0,none⟩ (.slice d f b)):=⟨by simp,fun k h1 _=>qh _ _ _ _ (by show k≠w.heap.size+1;omega)⟩
 exact⟨d,f,b,i,rfl,(hH.agr m).mono (by omega),q,j,g.rd.low B h.lo,g.o.then B⟩
end Go.Proofs.YtkophfgkcijjkaaGreatDoor.Vp
