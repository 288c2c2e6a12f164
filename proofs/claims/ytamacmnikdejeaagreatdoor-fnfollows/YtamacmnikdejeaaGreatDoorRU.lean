import Derived.Test.YtamacmnikdejeaaGreatDoorRR
import Derived.Test.YtamacmnikdejeaaGreatDoorRA
open Go.Addr renaming mk->N
open Go.Value renaming slice->Y,string->U,int->J
open Option renaming none->Z,some->T
open Go.Obj renaming cells->Q
open Go.IntKind renaming i64->I
open Go renaming World->G,Value->QE
namespace Go.Proofs.YtamacmnikdejeaaGreatDoor.Vp
open RowKit
theorem pu (L:List I3):i3L L=ct (cS L) L.length:=by
 have e:(List.range L.length).map (cS L)=L.map fun x=>(⟨x.1,⟨x.2.1.toArray⟩,x.2.2⟩:Ins):=by
  refine List.ext_getElem (by simp) fun i h1 h2=>?_;have hi:i<L.length:=by simpa using h2
  simp[cS,hi]
 rw[ct,e,LK];rfl
structure PrG (base:Nat)(W:G)(RT:List TR)(b g c n:Nat)(f:Nat->Ins):Prop where
 blk:PB W b (Y (T (N g 0 Z)) n c)
 own:W.ownsRow base 146 3 (Y (T (N g 0 Z)) n c) n (ct f n)
 new:∀ r∈RT,r.2.1≠g
 lo:base<=b
 num:1<=n/\n<=200
 sz:∀ j,j<n->(f j).s.size<=5000
section
variable {W W':G}{base R b g c n:Nat}{f:Nat->Ins}{RT:List TR}
theorem PrG.below (h:PrG base W RT b g c n f){B:Nat}(hb:Below B W W')(i:W.heap.size<=B):PrG base W' RT b g c n f :=
 ⟨h.blk.below hb (lj h.blk.lt i),own_below h.own hb i,h.new,h.lo,h.num,h.sz⟩
theorem PrG.only (h:PrG base W RT b g c n f)(i:Only R W W')(hR:R<base):PrG base W' RT b g c n f :=
 ⟨(i.block b h.blk.lt (by have:=h.lo;omega)).trans h.blk,fL h.own i hR,h.new,h.lo,h.num,h.sz⟩
theorem TRow.ltg {w:G}{base:Nat}{v:QE}{R:List TR}(h:TRow w base v R):∀ r∈R,r.2.1<w.heap.size:=fun r b=>(h.act r b).1.1
theorem TRow.atk {w:G}{base c k:Nat}{a:Option Addr}{R:List TR}(h:TRow w base (Y a R.length c) R)(l:k<R.length):∃ (b:Nat) (r:TR),a=T (N b 0 Z)/\b<w.heap.size/\r∈R/\w.cell? (N b (k*2) Z)=T (U r.1.name)/\w.cell? (N b (k*2+1) Z)=T (Y (T (N r.2.1 0 Z)) r.1.actN r.2.2)/\SlIns w (T (N r.2.1 0 Z)) r.1.actN r.1.act:=by
 obtain⟨g,c',e⟩:=dV h.own (by omega);simp at e;obtain⟨rfl,rfl⟩:=e;obtain⟨r,i,f⟩:=ve l;refine⟨g,r,rfl,(cX h.own).2,f,?_,?_,(h.act r f).1.sl⟩
 ·exact(bv h.own (j:=k*2) (u:=U r.1.name) (by have:=cK bc 2 (fun _=>rfl) R k 0 (by omega) _ i;simpa[bc] using this)).1
 ·exact(bv h.own (j:=k*2+1) (u:=Y (T (N r.2.1 0 Z)) r.1.actN r.2.2) (by have:=cK bc 2 (fun _=>rfl) R k 1 (by omega) _ i;simpa[bc] using this)).1
theorem jn {L:List I3}(f:∀ i∈L,i.2.1.length<=5000):∀ j,j<L.length->(cS L j).s.size<=5000:=by
 intro j b;have e:cS L j=⟨L[j].1,⟨L[j].2.1.toArray⟩,L[j].2.2⟩:=by simp[cS,b]
 rw[e];show L[j].2.1.toArray.size<=5000;simpa using f _ (gj b)
theorem yN {L:List I3}{lo:Nat}(f:IR W lo g c L)(h:base<=lo)(b:∀ r∈RT,r.2.1<lo)(l:base<=W.heap.size)(h1:1<=L.length/\L.length<=200)(m:∀ i∈L,i.2.1.length<=5000):PrG base (W.alloc (Q #[Y (T (N g 0 Z)) L.length c] 43)) RT W.heap.size g c L.length (cS L):=by
 have hg:=f.lt;refine⟨eT W _,?_,fun r j e=>by have:=b r j;omega,l,h1,jn m⟩;have h2:W.ownsRow base 146 3 (Y (T (N g 0 Z)) L.length c) L.length (ct (cS L) L.length):=by rw[<-pu];exact aE f h
 exact own_below h2 ((q9 W).alloc ly _) ly
theorem PrG.put {l c2 i:Nat}{q:Nat->Ins}{lo:Nat}(h:PrG base W RT b g c n f)(p:W.ownsRow lo 146 3 (Y (T (N l 0 Z)) i c2) i (ct q i))(z:base<=lo)(o:∀ r∈RT,r.2.1<lo)(h1:1<=i/\i<=200)(E:∀ j,j<i->(q j).s.size<=5000):PrG base (W.setCell (N b 0 Z) (Y (T (N l 0 Z)) i c2)) RT b l c2 i q:=by
 have y:=(World.ownsRow.lt p l rfl).1;refine⟨h.blk.set _,?_,fun r B e=>by have:=o r B;omega,h.lo,h1,E⟩;have x:b≠l:=by intro e;subst e;obtain⟨m,y⟩:=iZ p;have:=h.blk.symm.trans y;cases this
 refine aE ?_ z;rcases p with ⟨t,h2 | ⟨D,cap,m,A,hb,u,C⟩⟩
 ·exact⟨t,.inl h2⟩
 ·refine⟨t,.inr ⟨D,cap,m,A,hb,?_,C⟩⟩
  cases A
  exact(qh W (N b 0 Z) _ l (fun e=>x e.symm)).trans u
theorem SpB.putP {f:Nat}{v0 v1:QE}{LS:List Source}{v:QE}(h:SpB f W v0 v1 LS RT)(D:PB W b v)(hb:f+2<=b)(u:QE):SpB f (W.setCell (N b 0 Z) u) v0 v1 LS RT:=by
 have far:∀ k,k≠b->(W.setCell (N b 0 Z) u).heap[k]?=W.heap[k]?:=fun k q=>qh W (N b 0 Z) u k (by simpa using q);have o:W.heap.size<=(W.setCell (N b 0 Z) u).heap.size:=by simp[World.setCell]
 have m:∀ k e,TypeAt W k e->e≠43->k≠b:=by
  intro k e ⟨g,q⟩ t y;subst y;have:=D.symm.trans q;cases this
  exact t rfl
 have i:∀ {e:TypeId} {size n:Nat} {x:QE} {p:List QE},W.ownsRow (f+2) e size x n p->e≠43->(W.setCell (N b 0 Z) u).ownsRow (f+2) e size x n p:=by
  intro e size n x p E t;rcases E with ⟨z,h2 | ⟨s,cap,g,y,A,l,j⟩⟩
  ·exact⟨z,.inl h2⟩
  ·exact⟨z,.inr ⟨s,cap,g,y,A,(far s (m s e ⟨g,l⟩ t)).trans l,j⟩⟩
 refine⟨(far f (by omega)).trans h.res,(far (f+1) (by omega)).trans h.box,i h.src (by decide),i h.tgt.own (by decide),fun r C=>?_,h.tgt.up⟩;obtain⟨h1,⟨F,h2⟩,j,B⟩:=h.tgt.act r C;have e:=far r.2.1 (m r.2.1 146 j (by decide));exact⟨h1.block o e,⟨F,h2.block o e⟩,j.block e,B⟩
def Em (nm tx:ByteArray)(z:Int)(i:Nat):Ins:=([⟨1,nm,0⟩,⟨12,⟨#[]⟩,0⟩,⟨1,tx,0⟩,⟨2,⟨#[]⟩,0⟩,⟨3,⟨#[]⟩,z⟩,⟨15,⟨#[]⟩,0⟩]:List Ins).getD i ⟨0,⟨#[]⟩,0⟩
theorem yO {nm tx:ByteArray}{z:Int}(h1:nm.size<=5000)(h2:tx.size<=5000):∀ j,j<6->(Em nm tx z j).s.size<=5000:=by
 have b:(⟨#[]⟩:ByteArray).size<=5000:=DN _;intro j f;match j,f with
 | 0,_=>exact h1
 | 1,_=>exact b
 | 2,_=>exact h2
 | 3,_=>exact b
 | 4,_=>exact b
 | 5,_=>exact b
 | k+6,h=>exact absurd h (by omega)
abbrev pZ (nm tx:ByteArray)(z:Int):Array QE:=#[J I 1,U nm,J I 0,J I 12,U ⟨#[]⟩,J I 0,J I 1,U tx,J I 0,J I 2,U ⟨#[]⟩,J I 0,J I 3,U ⟨#[]⟩,J I z,J I 15,U ⟨#[]⟩,J I 0]
theorem PrG.six (h:PrG base W RT b g c n f)(j:∀ r∈RT,r.2.1<W.heap.size)(m:base<=W.heap.size)(nm tx:ByteArray)(z:Int)(h1:nm.size<=5000)(h2:tx.size<=5000):PrG base ((W.setCell (N b 0 Z) (Y (T (N W.heap.size 0 Z)) 6 6)).alloc (Q (pZ nm tx z) 146)) RT b W.heap.size 6 6 (Em nm tx z):=by
 have hz:(W.setCell (N b 0 Z) (Y (T (N W.heap.size 0 Z)) 6 6)).heap.size=W.heap.size:=by simp
 have A:=(a8 W.heap.size (W.setCell (N b 0 Z) (Y (T (N W.heap.size 0 Z)) 6 6))).alloc (by rw[hz];exact j6 _) (Q (pZ nm tx z) 146);refine⟨(h.blk.set _).below A h.blk.lt,?_,fun r l e=>by have:=j r l;omega,h.lo,⟨by omega,by omega⟩,yO h1 h2⟩;have i:=eT (W.setCell (N b 0 Z) (Y (T (N W.heap.size 0 Z)) 6 6)) (Q (pZ nm tx z) 146);rw[hz] at i;exact⟨rfl,.inr ⟨W.heap.size,6,pZ nm tx z,rfl,m,i,j6 _,by unfold maxLen;omega,rfl,rfl⟩⟩
end
theorem dy {w:G}{base size n X j:Nat}{e t:TypeId}{v:QE}{f:List QE}{p:Array QE}{fz:Nat × Nat}(h:w.ownsRow base e size v n f)(hX:w.heap[X]?=T (Q p t fz))(o:t≠e)(u:QE):(w.setCell (N X j Z) u).ownsRow base e size v n f:=by
 rcases h with ⟨b,h2 | ⟨g,cap,l,r,hb,i,m⟩⟩
 ·exact⟨b,.inl h2⟩
 ·refine⟨b,.inr ⟨g,cap,l,r,hb,(qh w (N X j Z) u g ?_).trans i,m⟩⟩
  intro q;obtain rfl:g=X:=q;have:=hX.symm.trans i;cases this
  exact o rfl
theorem jT {w:G}{base X j:Nat}{t:TypeId}{v:QE}{R:List TR}{l:Array QE}{fz:Nat × Nat}(h:TRow w base v R)(hX:w.heap[X]?=T (Q l t fz))(i:t≠125)(hi:t≠146)(u:QE):TRow (w.setCell (N X j Z) u) base v R:=by
 refine⟨dy h.own hX i u,fun r g=>?_,h.up⟩;obtain⟨h1,⟨F,h2⟩,b,f⟩:=h.act r g
 have e:(w.setCell (N X j Z) u).heap[r.2.1]?=w.heap[r.2.1]?:=qh w (N X j Z) u r.2.1 (by
  intro n;obtain rfl:r.2.1=X:=n;obtain⟨cur,m⟩:=b;have:=hX.symm.trans m;cases this
  exact hi rfl)
 exact⟨h1.block (by simp) e,⟨F,h2.block (by simp) e⟩,b.block e,f⟩
theorem fG {w f:G}{X:Nat}{v:QE}{e t:TypeId}{b:Array QE}{fz:Nat × Nat}(l:w.grownBy f v.ownBlock)(i:∀ k,v.ownBlock=T k->TypeAt w k e)(hX:w.heap[X]?=T (Q b t fz))(j:t≠e):f.heap[X]?=T (Q b t fz):=by
 refine(l.block X (ai hX) fun h=>?_).trans hX;obtain⟨cur,g⟩:=i X h.symm;have:=hX.symm.trans g;cases this
 exact j rfl
def GX (RT:List TR):Prop:=∀ r∈RT,r.1.actN<=300/\∀ j,j<r.1.actN->(r.1.act j).s.size<=5000
theorem GX.add {RT:List TR}(h:GX RT){r:TR}(h1:r.1.actN<=300)(h2:∀ j,j<r.1.actN->(r.1.act j).s.size<=5000):GX (RT++[r]):=by
 intro y b;rcases nL.1 b with b | b
 ·exact h y b
 ·rw[hU.1 b];exact⟨h1,h2⟩
theorem Do {f:Nat->Target}{t:ByteArray}{n:Nat}{R:List TR}(hM:R.map (·.1)=keepT f t n)(g:∀ i,i<n->(f i).actN<=300/\∀ j,j<(f i).actN->((f i).act j).s.size<=5000):GX R:=by
 intro r b;have h1:r.1∈keepT f t n:=by rw[<-hM];exact LP b
 have h2:=(NE.1 h1).1;obtain⟨i,hi,e⟩:=IW.1 h2;rw[<-e];exact g i (HU.1 hi)
theorem Dp {f:Nat->Target}{t:ByteArray}{n:Nat}{R:List TR}(hM:R.map (·.1)=keepT f t n)(g:∀ i,i<n->1<=(f i).actN/\(f i).actN<=200):∀ r∈R,1<=r.1.actN/\r.1.actN<=200:=by
 intro r b;have h1:r.1∈keepT f t n:=by rw[<-hM];exact LP b
 have h2:=(NE.1 h1).1;obtain⟨i,hi,e⟩:=IW.1 h2;rw[<-e];exact g i (HU.1 hi)
theorem xw {f:Nat->Target}{t:ByteArray}{n:Nat}{R:List TR}(hM:R.map (·.1)=keepT f t n):R.length<=n:=by
 have h1:R.length=(keepT f t n).length:=by rw[<-hM,JN]
 have:=MJ (fun x:Target=>!(x.name.toList == t.toList)) ((List.range n).map f);rw[h1];simpa[keepT] using this
def lsI (L:List Ins)(i:Nat):Ins:=L.getD i ⟨0,⟨#[]⟩,0⟩
theorem tF {L:List Ins}(h:∀ x∈L,x.s.size<=5000):∀ j,j<L.length->(lsI L j).s.size<=5000:=by
 intro j b;have e:lsI L j=L[j]:=by simp[lsI,b]
 rw[e];exact h _ (gj b)
theorem ou {w:G}{z:Nat}(hz:w.heap.size=z)(x y:QE)(t:TypeId):∀ j u,[x,y][j]?=T u->(w.alloc (Q #[x,y] t)).cell? (((N z 0 Z):Addr).add j)=T u:=by subst hz;exact cL w x y t
def jU:List Ins:=[⟨1,⟨#[107]⟩,0⟩,⟨15,⟨#[]⟩,0⟩]
def ii (b:ByteArray):List Ins:=[⟨1,b,0⟩,⟨12,⟨#[]⟩,0⟩,⟨15,⟨#[]⟩,0⟩]
theorem vB (w:G){base:Nat}(hb:base<=w.heap.size):(w.alloc (Q #[J I 1,U ⟨#[107]⟩,J I 0,J I 15,U ⟨#[]⟩,J I 0] 146)).ownsRow base 146 3 (Y (T (N w.heap.size 0 Z)) 2 2) 2 (ct (lsI jU) 2) :=
 ⟨rfl,.inr ⟨w.heap.size,2,_,rfl,hb,eT w _,j6 _,by unfold maxLen;omega,rfl,rfl⟩⟩
theorem yP (w:G)(b:ByteArray){base:Nat}(hb:base<=w.heap.size):(w.alloc (Q #[J I 1,U b,J I 0,J I 12,U ⟨#[]⟩,J I 0,J I 15,U ⟨#[]⟩,J I 0] 146)).ownsRow base 146 3 (Y (T (N w.heap.size 0 Z)) 3 3) 3 (ct (lsI (ii b)) 3) :=
 ⟨rfl,.inr ⟨w.heap.size,3,_,rfl,hb,eT w _,j6 _,by unfold maxLen;omega,rfl,rfl⟩⟩
theorem tG:∀ j,j<2->(lsI jU j).s.size<=5000:=tF (L:=jU) (by decide)
theorem xx {b:ByteArray}(h:b.size<=5000):∀ j,j<3->(lsI (ii b) j).s.size<=5000:=tF (L:=ii b) fun x f=>by
 simp only[ii,p6,nj,JQ] at f;rcases f with rfl | rfl | rfl
 ·exact h
 ·exact DN _
 ·exact DN _
theorem fV {w:G}{base size n g c j:Nat}{e:TypeId}{b:List QE}(h:w.ownsRow base e size (Y (T (N g 0 Z)) n c) n b)(u:QE):(w.setCell (N g j Z) u).ownsRow base e size (Y (T (N g 0 Z)) n c) n (b.set j u):=by
 rcases h with ⟨m,⟨h2,_⟩ | ⟨g',cap,f,q,hb,o,l,i,p,r⟩⟩
 ·cases h2
 ·cases q
  refine⟨by rw[IC];exact m,.inr ⟨g,c,f.setIfInBounds j u,rfl,hb,bI o u,l,i,by rw[Array.size_setIfInBounds];exact p,?_⟩⟩;rw[<-r,J7,NR]
theorem AU {w:G}{base b j:Nat}{RT:List TR}(h:∀ r∈RT,RowIns w r.2.1 0 r.1.actN r.1.act/\(∃ F,Cells w r.2.1 0 (r.1.actN*3) F)/\TypeAt w r.2.1 146/\base<=r.2.1)(m:TypeAt w b 125)(u:QE):∀ r∈RT,RowIns (w.setCell (N b j Z) u) r.2.1 0 r.1.actN r.1.act/\(∃ F,Cells (w.setCell (N b j Z) u) r.2.1 0 (r.1.actN*3) F)/\TypeAt (w.setCell (N b j Z) u) r.2.1 146/\base<=r.2.1:=by
 intro r l;obtain⟨h1,⟨F,h2⟩,g,i⟩:=h r l
 have e:(w.setCell (N b j Z) u).heap[r.2.1]?=w.heap[r.2.1]?:=qh w (N b j Z) u r.2.1 (by
  intro f;have f:r.2.1=b:=f
  exact eC g (f ▸ m) (by decide) rfl)
 exact⟨h1.block (by simp) e,⟨F,h2.block (by simp) e⟩,g.block e,i⟩
theorem qb {base X j:Nat}{w:G}(hX:X<base)(u:QE):Agr base w (w.setCell (N X j Z) u) :=
 ⟨by simp,fun k h1 _=>qh w (N X j Z) u k (by intro e;have e:k=X:=e;omega)⟩
abbrev TO:=Target × Option Addr × Nat
def toV (r:TO):List QE:=[U r.1.name,Y r.2.1 r.1.actN r.2.2]
def upO (r:TR):TO:=(r.1,T (N r.2.1 0 Z),r.2.2)
theorem ox (RT:List TR):RT.flatMap bc=(RT.map upO).flatMap toV:=by rw[LK];rfl
theorem tH {w:G}{base c:Nat}{a:Option Addr}{L:List TO}(h:w.ownsRow base 125 2 (Y a L.length c) L.length (L.flatMap toV))(f:∀ r∈L,SlIns w r.2.1 r.1.actN r.1.act):SlTarget w a L.length (be (L.map (·.1))):=by
 by_cases hn:L.length=0
 ·exact .inl hn
 ·obtain⟨g,c',e⟩:=dV h (by omega)
  simp at e;obtain⟨rfl,rfl⟩:=e;refine .inr ⟨g,0,rfl,(cX h).2,fun i hi=>?_⟩;have b:L[i]?=T L[i]:=gq hi;have l:be (L.map (·.1)) i=L[i].1:=by simp[be,hi]
  rw[l];refine⟨?_,L[i].2.1,L[i].2.2,?_,f _ (gj hi)⟩
  ·have:=(bv h (j:=i*2) (u:=U L[i].1.name) (by have:=cK toV 2 (fun _=>rfl) L i 0 (by omega) _ b;simpa[toV] using this)).1
   rwa[show 0+i*2=i*2 by omega]
  ·have:=(bv h (j:=i*2+1) (u:=Y L[i].2.1 L[i].1.actN L[i].2.2) (by have:=cK toV 2 (fun _=>rfl) L i 1 (by omega) _ b;simpa[toV] using this)).1
   rwa[show 0+i*2+1=i*2+1 by omega]
structure SpX (rr xb base:Nat)(W:G)(v0 v1:QE)(LS:List Source)(RT:List TR):Prop where
 res:W.heap[rr]?=T (Q #[Y Z 0 0,Y Z 0 0] 29 (0,0))
 box:W.heap[xb]?=T (Q #[v0,v1] 29 (0,0))
 lo:rr<base
 hi:base<=xb
 src:W.ownsRow base 121 2 v0 LS.length (LS.flatMap bC)
 tgt:TRow W base v1 RT
section
variable {W W':G}{R rr xb base:Nat}{v0 v1:QE}{LS:List Source}{RT:List TR}
theorem SpX.lt (h:SpX rr xb base W v0 v1 LS RT):xb<W.heap.size:=ai h.box
theorem SpX.cells (h:SpX rr xb base W v0 v1 LS RT):W.cell? (N xb 0 Z)=T v0/\W.cell? (N xb 1 Z)=T v1:=by have hb:=h.box;refine⟨?_,?_⟩<;>simp[World.cell?,hb]
def BxS (v0 v1:QE)(xb:Nat)(V:G):Prop:=V.heap[xb]?=T (Q #[v0,v1] 29 (0,0))/\V.cell? (N xb 0 Z)=T v0
def BxT (v0 v1:QE)(xb:Nat)(V:G):Prop:=V.heap[xb]?=T (Q #[v0,v1] 29 (0,0))/\V.cell? (N xb 1 Z)=T v1
theorem ij (h:W.heap[xb]?=T (Q #[v0,v1] 29 (0,0))):BxS v0 v1 xb W:=⟨h,by simp[World.cell?,h]⟩
theorem tI (h:W.heap[xb]?=T (Q #[v0,v1] 29 (0,0))):BxT v0 v1 xb W:=⟨h,by simp[World.cell?,h]⟩
theorem SpX.keepS (h:SpX rr xb base W v0 v1 LS RT)(V:G)(f:∀ j,j<W.heap.size->T j≠v0.ownBlock->V.heap[j]?=W.heap[j]?):BxS v0 v1 xb V :=
 ij ((f xb h.lt fun e=>by
  obtain⟨cur,b⟩:=dT h.src _ e.symm
  cases h.box.symm.trans b).trans h.box)
theorem SpX.keepT (h:SpX rr xb base W v0 v1 LS RT)(V:G)(f:∀ j,j<W.heap.size->T j≠v1.ownBlock->V.heap[j]?=W.heap[j]?):BxT v0 v1 xb V :=
 tI ((f xb h.lt fun e=>by
  obtain⟨cur,b⟩:=h.tgt.type _ e.symm
  cases h.box.symm.trans b).trans h.box)
theorem SpX.open (h:SpX rr xb base W v0 v1 LS RT):W.frozen? (N xb 0 Z)=false/\W.frozen? (N xb 1 Z)=false:=by have hb:=h.box;refine⟨?_,?_⟩<;>simp[World.frozen?,hb]
theorem SpX.below (h:SpX rr xb base W v0 v1 LS RT){B:Nat}(hb:Below B W W')(b:W.heap.size<=B):SpX rr xb base W' v0 v1 LS RT:=by have hl:=h.lt;have:=h.lo;have:=h.hi;exact⟨(hb.block rr (by omega)).trans h.res,(hb.block xb (by omega)).trans h.box,h.lo,h.hi,own_below h.src hb b,h.tgt.below hb b⟩
theorem SpX.only (h:SpX rr xb base W v0 v1 LS RT)(b:Only R W W')(hR:R<rr):SpX rr xb base W' v0 v1 LS RT:=by have hl:=h.lt;have h1:=h.lo;have h2:=h.hi;exact⟨(b.block rr (by omega) (by omega)).trans h.res,(b.block xb (by omega) (by omega)).trans h.box,h1,h2,fL h.src b (by omega),h.tgt.only b (by omega)⟩
theorem SpX.addT {x:Target}{g c:Nat}{b:QE}(h:SpX rr xb base W v0 v1 LS RT)(n:∀ r∈RT,r.2.1≠g)(m:W.ownsRow base 146 3 (Y (T (N g 0 Z)) x.actN c) x.actN (ct x.act x.actN))
  (j:W'.ownsRow base 125 2 b (RT.length+1) (RT.flatMap bc++bc (x,g,c))) (f:W.grownBy W' v1.ownBlock):SpX rr xb base (W'.setCell (N xb 1 Z) b) v0 b LS (RT++[(x,g,c)])/\Below base W (W'.setCell (N xb 1 Z) b):=by
 have hlt:=h.lt;have h1:=h.lo;have h2:=h.hi;have hb:base<=g:=(m.lt g rfl).1;have q:Below base W W':=(a8 base W).grown f (by omega) fun k o=>(h.tgt.own.lt k o).1;have l:Below base W (W'.setCell (N xb 1 Z) b):=q.setCell (p:=(N xb 1 Z)) h2 b;have i:W'.heap[xb]?=T (Q #[v0,v1] 29 (0,0)):=fG f h.tgt.type h.box (by decide);refine⟨⟨(l.block rr h1).trans h.res,bI i b,h1,h2,?_,?_⟩,l⟩
 ·refine dy (h.src.kept f ?_) i (by decide) b
  cases hv:v0.ownBlock with
  | none=>exact .inl rfl
  | some k=>exact .inr fun e=>eC (dT h.src k hv) (h.tgt.type k e.symm) (by decide) rfl
 ·exact jT (h.tgt.more2 n hb m j f) i (by decide) (by decide) b
theorem SpX.addS {x:Source}{b:QE}(h:SpX rr xb base W v0 v1 LS RT)(g:W'.ownsRow base 121 2 b (LS.length+1) (LS.flatMap bC++bC x))(l:W.grownBy W' v0.ownBlock):SpX rr xb base (W'.setCell (N xb 0 Z) b) b v1 (LS++[x]) RT/\Below base W (W'.setCell (N xb 0 Z) b):=by
 have hlt:=h.lt;have h1:=h.lo;have h2:=h.hi;have n:Below base W W':=(a8 base W).grown l (by omega) fun k f=>(h.src.lt k f).1;have m:Below base W (W'.setCell (N xb 0 Z) b):=n.setCell (p:=(N xb 0 Z)) h2 b;have i:W'.heap[xb]?=T (Q #[v0,v1] 29 (0,0)):=fG l (dT h.src) h.box (by decide);refine⟨⟨(m.block rr h1).trans h.res,bI i b,h1,h2,?_,?_⟩,m⟩
 ·have o:=dy g i (by decide) (j:=0) b
  rw[eI,EQ];simpa using o
 ·exact jT (pd h.tgt l fun k f=>dT h.src k f) i (by decide) (by decide) b
theorem TRow.mono {base base':Nat}(h:TRow W base v1 RT)(hb:base'<=base):TRow W base' v1 RT :=
 ⟨aE h.own hb,fun r b=>by obtain⟨h1,h2,f,h4⟩:=h.act r b;exact⟨h1,h2,f,by omega⟩,h.up⟩
theorem qd {base':Nat}(b:W.heap[rr]?=T (Q #[Y Z 0 0,Y Z 0 0] 29 (0,0)))(f:rr<base)(hb:base<=base')(hz:base<=W.heap.size)(g:W.ownsRow base' 121 2 v0 LS.length (LS.flatMap bC))(h:TRow W base' v1 RT):SpX rr W.heap.size base (W.alloc (Q #[v0,v1] 29)) v0 v1 LS RT:=by have A:=(q9 W).alloc ly (Q #[v0,v1] 29);exact⟨(A.block rr (ai b)).trans b,eT W _,f,hz,own_below (aE g hb) A ly,(h.mono hb).below A ly⟩
theorem SpX.fin {a0 a1:Option Addr}{n0 c0 n1 c1:Nat}(h:SpX rr xb base W (Y a0 n0 c0) (Y a1 n1 c1) LS RT)(g:n0=LS.length)(f:n1=RT.length)(b:LS.length<=300)(h1:RT.length<=300)(i:GX RT)(u v:QE):HSp base ((W.setCell (N rr 0 Z) u).setCell (N rr 1 Z) v) a0 n0 (ba LS) a1 n1 (be (RT.map (·.1))) :=
 eX (aV (aV h.src h.lo u) h.lo v) g ((h.tgt.set h.lo u).set h.lo v) f b h1 i
theorem SpX.addNil {nm:ByteArray}{a0 a1:Option Addr}{c0 c1:Nat}(h:SpX rr xb base W (Y a0 LS.length c0) v1 LS RT)(q:W'.ownsRow base 125 2 (Y a1 (RT.length+1) c1) (RT.length+1) (RT.flatMap bc++[U nm,Y Z 0 0]))(f:W.grownBy W' v1.ownBlock)(H:LS.length<=300)(h1:RT.length<=299)(QP:GX RT):HSp base (W'.setCell (N xb 1 Z) (Y a1 (RT.length+1) c1)) a0 LS.length (ba LS) a1 (RT.length+1) (be (RT.map (·.1)++[⟨nm,0,fun _=>⟨0,⟨#[]⟩,0⟩⟩]))/\(W'.setCell (N xb 1 Z) (Y a1 (RT.length+1) c1)).heap[xb]?=T (Q #[Y a0 LS.length c0,Y a1 (RT.length+1) c1] 29 (0,0))/\(W'.setCell (N xb 1 Z) (Y a1 (RT.length+1) c1)).heap[rr]?=T (Q #[Y Z 0 0,Y Z 0 0] 29 (0,0))/\Below base W (W'.setCell (N xb 1 Z) (Y a1 (RT.length+1) c1)):=by
 have hlt:=h.lt;have M:=h.lo;have C:=h.hi;have L:Below base W W':=(a8 base W).grown f (by omega) fun k QR=>(h.tgt.own.lt k QR).1;have t:Below base W (W'.setCell (N xb 1 Z) (Y a1 (RT.length+1) c1)):=L.setCell (p:=(N xb 1 Z)) C _;have g:W'.heap[xb]?=T (Q #[Y a0 LS.length c0,v1] 29 (0,0)):=fG f h.tgt.type h.box (by decide);have n:(W'.setCell (N xb 1 Z) (Y a1 (RT.length+1) c1)).ownsRow base 121 2 (Y a0 LS.length c0) LS.length (LS.flatMap bC):=by
  refine dy (h.src.kept f ?_) g (by decide) _;cases hv:(Value.slice a0 LS.length c0).ownBlock with
  | none=>exact .inl rfl
  | some k=>exact .inr fun e=>eC (dT h.src k hv) (h.tgt.type k e.symm) (by decide) rfl
 have x:=dy q g (by decide) (j:=1) (Y a1 (RT.length+1) c1);refine⟨⟨fun V l=>⟨mL (eG n l),?_⟩,H,by omega,fun i hi=>?_⟩,bI g _,(t.block rr M).trans h.res,t⟩
 ·have u:RT.length+1=(RT.map upO++[((⟨nm,0,fun _=>⟨0,⟨#[]⟩,0⟩⟩,Z,0):TO)]).length:=by simp
  have s:=eG x l;rw[ox,show(RT.map upO).flatMap toV++[U nm,Y Z 0 0]=(RT.map upO++[((⟨nm,0,fun _=>⟨0,⟨#[]⟩,0⟩⟩,Z,0):TO)]).flatMap toV by rw[EQ];rfl,u] at s;have D:=tH s ?_
  ·rw[u]
   have QO:(RT.map upO++[((⟨nm,0,fun _=>⟨0,⟨#[]⟩,0⟩⟩,Z,0):TO)]).map (·.1)=RT.map (·.1)++[⟨nm,0,fun _=>⟨0,⟨#[]⟩,0⟩⟩]:=by rw[HJ,List.map_map];rfl
   rw[<-QO];exact D
  ·intro r b
   rcases nL.1 b with b | b
   ·obtain⟨y,QN,rfl⟩:=IW.1 b
    obtain⟨z,_,A,E⟩:=h.tgt.act y QN;have z1:=f.block y.2.1 z.1 (fun e=>eC A (h.tgt.type _ e.symm) (by decide) rfl);have z2:=z.block f.size z1;have z3:RowIns (W'.setCell (N xb 1 Z) (Y a1 (RT.length+1) c1)) y.2.1 0 y.1.actN y.1.act:=by refine z2.block (by simp) (qh W' (N xb 1 Z) _ y.2.1 ?_);intro o;have o:y.2.1=xb:=o;obtain⟨cur,B⟩:=A.block z1;rw[o] at B;have:=g.symm.trans B;cases this
    exact(z3.block l.1 (l.2 y.2.1 E z3.1)).sl
   ·rw[hU.1 b]
    exact .inl rfl
 ·by_cases m:i<RT.length
  ·have e:be (RT.map (·.1)++[⟨nm,0,fun _=>⟨0,⟨#[]⟩,0⟩⟩]) i=RT[i].1:=by simp[be,List.getElem?_append,m]
   rw[e];exact QP _ (gj m)
  ·have e:be (RT.map (·.1)++[⟨nm,0,fun _=>⟨0,⟨#[]⟩,0⟩⟩]) i=⟨nm,0,fun _=>⟨0,⟨#[]⟩,0⟩⟩:=by
    obtain rfl:i=RT.length:=by omega
    simp[be]
   rw[e];exact⟨by show 0<=300;omega,fun j K=>absurd K (E4 _)⟩
theorem SpX.setS {b c0 j:Nat}{LS':List Source}(h:SpX rr xb base W (Y (T (N b 0 Z)) LS.length c0) v1 LS RT)(u:QE)(l:LS'.length=LS.length)(i:(LS.flatMap bC).set j u=LS'.flatMap bC):SpX rr xb base (W.setCell (N b j Z) u) (Y (T (N b 0 Z)) LS.length c0) v1 LS' RT/\Below base W (W.setCell (N b j Z) u):=by
 have hb:=(h.src.lt b rfl).1;obtain⟨cur,g⟩:=dT h.src b rfl;have far:∀ (X:Nat) f,W.heap[X]?=T (Q f 29 (0,0))->(W.setCell (N b j Z) u).heap[X]?=T (Q f 29 (0,0)):=by intro X f hX;refine(qh W (N b j Z) u X ?_).trans hX;intro e;have e:X=b:=e;subst e;have:=hX.symm.trans g;cases this
 refine⟨⟨far _ _ h.res,far _ _ h.box,h.lo,h.hi,?_,jT h.tgt g (by decide) (by decide) u⟩,(a8 base W).setCell (p:=(N b j Z)) hb u⟩;have h2:=fV h.src (j:=j) u;rw[i] at h2;rw[l];exact h2
theorem vC {a0 a1:Option Addr}{n0 c0 n1 c1:Nat}{L:List TO}(h:W.ownsRow base 121 2 (Y a0 n0 c0) LS.length (LS.flatMap bC))(t:n0=LS.length)(o:W.ownsRow base 125 2 (Y a1 n1 c1) n1 (L.flatMap toV))(n:n1=L.length)(p:LS.length<=300)(h1:L.length<=300)
  (q:∀ r∈L,∃ g,r.2.1=T (N g 0 Z)/\base<=g/\RowIns W g 0 r.1.actN r.1.act) (l:∀ r∈L,r.1.actN<=300/\∀ j,j<r.1.actN->(r.1.act j).s.size<=5000):HSp base W a0 n0 (ba LS) a1 n1 (be (L.map (·.1))):=by
 subst t n;refine⟨fun V b=>⟨mL (eG h b),tH (eG o b) fun r m=>?_⟩,p,h1,fun i hi=>?_⟩
 ·obtain⟨g,e,hb,f⟩:=q r m
  rw[e];exact(f.block b.1 (b.2 g hb f.1)).sl
 ·have e:be (L.map (·.1)) i=L[i].1:=by simp[be,hi]
  rw[e];exact l _ (gj hi)
theorem jF {b size n c:Nat}{e:TypeId}{a:Option Addr}{f:List QE}(h:W.ownsRow b e size (Y a n c) n f)(hn:0<n):∃ g,a=T (N g 0 Z):=by obtain⟨g,c',e⟩:=dV h hn;simp at e;exact⟨g,e.1⟩
end
end Go.Proofs.YtamacmnikdejeaaGreatDoor.Vp
