import Derived.Test.YtkdimgejdocbbaaGreatDoorYQ
import Derived.Test.YtkdimgejdocbbaaGreatDoorZZ
open Go.Addr renaming mk->J
open Go.Value renaming slice->Z,string->U,int->Q
open Option renaming none->Y,some->N
open Go.Obj renaming cells->T
open Go.IntKind renaming i64->I
open Go renaming World->E,Value->QB,TypeId->QF
namespace Go.Proofs.YtkdimgejdocbbaaGreatDoor.Vp
open RowKit
theorem yJ (L:List I3):i3L L=cB (ez L) L.length:=by
 have e:(List.range L.length).map (ez L)=L.map fun x=>(⟨x.1,⟨x.2.1.toArray⟩,x.2.2⟩:Ins):=by
  refine MW (by simp) fun i h1 h2=>?_;have hi:i<L.length:=by simpa using h2
  simp[ez,hi]
 rw[cB,e,LB];rfl
structure PrG (base:Nat)(W:E)(RT:List TR)(b g c n:Nat)(f:Nat->Ins):Prop where
 blk:PB W b (Z (N (J g 0 Y)) n c)
 own:W.ownsRow base 188 3 (Z (N (J g 0 Y)) n c) n (cB f n)
 new:∀ r∈RT,r.2.1≠g
 lo:base<=b
 num:1<=n/\n<=200
 sz:∀ j,j<n->(f j).s.size<=5000
section
variable {W W':E}{base R b g c n:Nat}{f:Nat->Ins}{RT:List TR}
theorem PrG.below (h:PrG base W RT b g c n f){B:Nat}(hb:Below B W W')(d:W.heap.size<=B):PrG base W' RT b g c n f :=
 ⟨h.blk.below hb (ll h.blk.lt d),own_below h.own hb d,h.new,h.lo,h.num,h.sz⟩
theorem PrG.only (h:PrG base W RT b g c n f)(d:Only R W W')(hR:R<base):PrG base W' RT b g c n f :=
 ⟨(d.block b h.blk.lt (by have:=h.lo;omega)).trans h.blk,gy h.own d hR,h.new,h.lo,h.num,h.sz⟩
theorem TRow.ltg {w:E}{base:Nat}{v:QB}{R:List TR}(h:TRow w base v R):∀ r∈R,r.2.1<w.heap.size:=fun r b=>(h.act r b).1.1
theorem TRow.atk {w:E}{base c k:Nat}{a:Option Addr}{R:List TR}(h:TRow w base (Z a R.length c) R)(i:k<R.length):∃ (b:Nat) (r:TR),a=N (J b 0 Y)/\b<w.heap.size/\r∈R/\w.cell? (J b (k*2) Y)=N (U r.1.name)/\w.cell? (J b (k*2+1) Y)=N (Z (N (J r.2.1 0 Y)) r.1.actN r.2.2)/\SlIns w (N (J r.2.1 0 Y)) r.1.actN r.1.act:=by
 obtain⟨g,c',e⟩:=dS h.own (by omega);simp at e;obtain⟨rfl,rfl⟩:=e;obtain⟨r,f,d⟩:=uK i;refine⟨g,r,rfl,(dR h.own).2,d,?_,?_,(h.act r d).1.sl⟩
 ·exact(bv h.own (j:=k*2) (u:=U r.1.name) (by have:=cS aV 2 (fun _=>rfl) R k 0 (by omega) _ f;simpa[aV] using this)).1
 ·exact(bv h.own (j:=k*2+1) (u:=Z (N (J r.2.1 0 Y)) r.1.actN r.2.2) (by have:=cS aV 2 (fun _=>rfl) R k 1 (by omega) _ f;simpa[aV] using this)).1
theorem nF {L:List I3}(d:∀ i∈L,i.2.1.length<=5000):∀ j,j<L.length->(ez L j).s.size<=5000:=by
 intro j b;have e:ez L j=⟨L[j].1,⟨L[j].2.1.toArray⟩,L[j].2.2⟩:=by simp[ez,b]
 rw[e];show L[j].2.1.toArray.size<=5000;simpa using d _ (gz b)
theorem yK {L:List I3}{lo:Nat}(f:IR W lo g c L)(d:base<=lo)(b:∀ r∈RT,r.2.1<lo)(j:base<=W.heap.size)(h1:1<=L.length/\L.length<=200)(h:∀ i∈L,i.2.1.length<=5000):PrG base (W.alloc (T #[Z (N (J g 0 Y)) L.length c] 31)) RT W.heap.size g c L.length (ez L):=by
 have hg:=f.lt;refine⟨eL W _,?_,fun r k e=>by have:=b r k;omega,j,h1,nF h⟩;have h2:W.ownsRow base 188 3 (Z (N (J g 0 Y)) L.length c) L.length (cB (ez L) L.length):=by rw[<-yJ];exact aI f d
 exact own_below h2 ((Qs W).alloc lr _) lr
theorem PrG.put {i c2 d:Nat}{m:Nat->Ins}{lo:Nat}(h:PrG base W RT b g c n f)(l:W.ownsRow lo 188 3 (Z (N (J i 0 Y)) d c2) d (cB m d))(p:base<=lo)(o:∀ r∈RT,r.2.1<lo)(h1:1<=d/\d<=200)(C:∀ j,j<d->(m j).s.size<=5000):PrG base (W.setCell (J b 0 Y) (Z (N (J i 0 Y)) d c2)) RT b i c2 d m:=by
 have u:=(World.ownsRow.lt l i rfl).1;refine⟨h.blk.set _,?_,fun r A e=>by have:=o r A;omega,h.lo,h1,C⟩;have q:b≠i:=by intro e;subst e;obtain⟨k,u⟩:=iX l;have:=h.blk.symm.trans u;cases this
 refine aI ?_ p;rcases l with ⟨t,h2 | ⟨QQ,z,k,x,hb,y,B⟩⟩
 ·exact⟨t,.inl h2⟩
 ·refine⟨t,.inr ⟨QQ,z,k,x,hb,?_,B⟩⟩
  cases x
  exact(qh W (J b 0 Y) _ i (fun e=>q e.symm)).trans y
theorem SpB.putP {rb:Nat}{v0 v1:QB}{LS:List Source}{v:QB}(h:SpB rb W v0 v1 LS RT)(A:PB W b v)(hb:rb+2<=b)(u:QB):SpB rb (W.setCell (J b 0 Y) u) v0 v1 LS RT:=by
 have far:∀ k,k≠b->(W.setCell (J b 0 Y) u).heap[k]?=W.heap[k]?:=fun k s=>qh W (J b 0 Y) u k (by simpa using s);have l:W.heap.size<=(W.setCell (J b 0 Y) u).heap.size:=by simp[World.setCell]
 have i:∀ k e,TypeAt W k e->e≠31->k≠b:=by
  intro k e ⟨f,s⟩ p o;subst o;have:=A.symm.trans s;cases this
  exact p rfl
 have d:∀ {e:QF} {size n:Nat} {x:QB} {m:List QB},W.ownsRow (rb+2) e size x n m->e≠31->(W.setCell (J b 0 Y) u).ownsRow (rb+2) e size x n m:=by
  intro e size n x m QQ p;rcases QQ with ⟨y,h2 | ⟨q,z,f,o,t,j,g⟩⟩
  ·exact⟨y,.inl h2⟩
  ·exact⟨y,.inr ⟨q,z,f,o,t,(far q (i q e ⟨f,j⟩ p)).trans j,g⟩⟩
 refine⟨(far rb (by omega)).trans h.res,(far (rb+1) (by omega)).trans h.box,d h.src (by decide),d h.tgt.own (by decide),fun r C=>?_,h.tgt.up⟩;obtain⟨h1,⟨F,h2⟩,g,B⟩:=h.tgt.act r C;have e:=far r.2.1 (i r.2.1 188 g (by decide));exact⟨h1.block l e,⟨F,h2.block l e⟩,g.block e,B⟩
def Et (nm tx:ByteArray)(z:Int)(i:Nat):Ins:=([⟨1,nm,0⟩,⟨12,⟨#[]⟩,0⟩,⟨1,tx,0⟩,⟨2,⟨#[]⟩,0⟩,⟨3,⟨#[]⟩,z⟩,⟨15,⟨#[]⟩,0⟩]:List Ins).getD i ⟨0,⟨#[]⟩,0⟩
theorem yM {nm tx:ByteArray}{z:Int}(h1:nm.size<=5000)(h2:tx.size<=5000):∀ j,j<6->(Et nm tx z j).s.size<=5000:=by
 have b:(⟨#[]⟩:ByteArray).size<=5000:=CS _;intro j d;match j,d with
 | 0,_=>exact h1
 | 1,_=>exact b
 | 2,_=>exact h2
 | 3,_=>exact b
 | 4,_=>exact b
 | 5,_=>exact b
 | k+6,h=>exact absurd h (by omega)
abbrev pr (nm tx:ByteArray)(z:Int):Array QB:=#[Q I 1,U nm,Q I 0,Q I 12,U ⟨#[]⟩,Q I 0,Q I 1,U tx,Q I 0,Q I 2,U ⟨#[]⟩,Q I 0,Q I 3,U ⟨#[]⟩,Q I z,Q I 15,U ⟨#[]⟩,Q I 0]
theorem PrG.six (h:PrG base W RT b g c n f)(i:∀ r∈RT,r.2.1<W.heap.size)(k:base<=W.heap.size)(nm tx:ByteArray)(z:Int)(h1:nm.size<=5000)(h2:tx.size<=5000):PrG base ((W.setCell (J b 0 Y) (Z (N (J W.heap.size 0 Y)) 6 6)).alloc (T (pr nm tx z) 188)) RT b W.heap.size 6 6 (Et nm tx z):=by
 have hz:(W.setCell (J b 0 Y) (Z (N (J W.heap.size 0 Y)) 6 6)).heap.size=W.heap.size:=by simp
 have A:=(eI W.heap.size (W.setCell (J b 0 Y) (Z (N (J W.heap.size 0 Y)) 6 6))).alloc (by rw[hz];exact j6 _) (T (pr nm tx z) 188);refine⟨(h.blk.set _).below A h.blk.lt,?_,fun r j e=>by have:=i r j;omega,h.lo,⟨by omega,by omega⟩,yM h1 h2⟩;have d:=eL (W.setCell (J b 0 Y) (Z (N (J W.heap.size 0 Y)) 6 6)) (T (pr nm tx z) 188);rw[hz] at d;exact⟨rfl,.inr ⟨W.heap.size,6,pr nm tx z,rfl,k,d,j6 _,by unfold maxLen;omega,rfl,rfl⟩⟩
end
theorem eW {w:E}{base size n X j:Nat}{e t:QF}{v:QB}{b:List QB}{l:Array QB}{fz:Nat × Nat}(h:w.ownsRow base e size v n b)(m:w.heap[X]?=N (T l t fz))(p:t≠e)(u:QB):(w.setCell (J X j Y) u).ownsRow base e size v n b:=by
 rcases h with ⟨d,h2 | ⟨g,i,k,q,hb,f,r⟩⟩
 ·exact⟨d,.inl h2⟩
 ·refine⟨d,.inr ⟨g,i,k,q,hb,(qh w (J X j Y) u g ?_).trans f,r⟩⟩
  intro o;obtain rfl:g=X:=o;have:=m.symm.trans f;cases this
  exact p rfl
theorem jK {w:E}{base X j:Nat}{t:QF}{v:QB}{R:List TR}{g:Array QB}{fz:Nat × Nat}(h:TRow w base v R)(b:w.heap[X]?=N (T g t fz))(l:t≠108)(hi:t≠188)(u:QB):TRow (w.setCell (J X j Y) u) base v R:=by
 refine⟨eW h.own b l u,fun r m=>?_,h.up⟩;obtain⟨h1,⟨F,h2⟩,d,i⟩:=h.act r m
 have e:(w.setCell (J X j Y) u).heap[r.2.1]?=w.heap[r.2.1]?:=qh w (J X j Y) u r.2.1 (by
  intro k;obtain rfl:r.2.1=X:=k;obtain⟨cur,f⟩:=d;have:=b.symm.trans f;cases this
  exact hi rfl)
 exact⟨h1.block (by simp) e,⟨F,h2.block (by simp) e⟩,d.block e,i⟩
theorem gS {w f:E}{X:Nat}{v:QB}{e t:QF}{d:Array QB}{fz:Nat × Nat}(j:w.grownBy f v.ownBlock)(h:∀ k,v.ownBlock=N k->TypeAt w k e)(b:w.heap[X]?=N (T d t fz))(l:t≠e):f.heap[X]?=N (T d t fz):=by
 refine(j.block X (aC b) fun i=>?_).trans b;obtain⟨cur,g⟩:=h X i.symm;have:=b.symm.trans g;cases this
 exact l rfl
def GX (RT:List TR):Prop:=∀ r∈RT,r.1.actN<=300/\∀ j,j<r.1.actN->(r.1.act j).s.size<=5000
theorem GX.add {RT:List TR}(h:GX RT){r:TR}(h1:r.1.actN<=300)(h2:∀ j,j<r.1.actN->(r.1.act j).s.size<=5000):GX (RT++[r]):=by
 intro y b;rcases kS.1 b with b | b
 ·exact h y b
 ·rw[j3.1 b];exact⟨h1,h2⟩
theorem vd {f:Nat->Target}{t:ByteArray}{n:Nat}{R:List TR}(hM:R.map (·.1)=keepT f t n)(b:∀ i,i<n->(f i).actN<=300/\∀ j,j<(f i).actN->((f i).act j).s.size<=5000):GX R:=by
 intro r d;have h1:r.1∈keepT f t n:=by rw[<-hM];exact LF d
 have h2:=(NB.1 h1).1;obtain⟨i,hi,e⟩:=ID.1 h2;rw[<-e];exact b i (BO.1 hi)
theorem Dt {f:Nat->Target}{t:ByteArray}{n:Nat}{R:List TR}(hM:R.map (·.1)=keepT f t n)(b:∀ i,i<n->1<=(f i).actN/\(f i).actN<=200):∀ r∈R,1<=r.1.actN/\r.1.actN<=200:=by
 intro r d;have h1:r.1∈keepT f t n:=by rw[<-hM];exact LF d
 have h2:=(NB.1 h1).1;obtain⟨i,hi,e⟩:=ID.1 h2;rw[<-e];exact b i (BO.1 hi)
theorem oL {f:Nat->Target}{t:ByteArray}{n:Nat}{R:List TR}(hM:R.map (·.1)=keepT f t n):R.length<=n:=by
 have h1:R.length=(keepT f t n).length:=by rw[<-hM,I4]
 have:=MN (fun x:Target=>!(x.name.toList == t.toList)) ((List.range n).map f);rw[h1];simpa[keepT] using this
def lsI (L:List Ins)(i:Nat):Ins:=L.getD i ⟨0,⟨#[]⟩,0⟩
theorem sW {L:List Ins}(h:∀ x∈L,x.s.size<=5000):∀ j,j<L.length->(lsI L j).s.size<=5000:=by
 intro j b;have e:lsI L j=L[j]:=by simp[lsI,b]
 rw[e];exact h _ (gz b)
theorem kO {w:E}{z:Nat}(hz:w.heap.size=z)(x y:QB)(t:QF):∀ j u,[x,y][j]?=N u->(w.alloc (T #[x,y] t)).cell? (((J z 0 Y):Addr).add j)=N u:=by subst hz;exact cT w x y t
def gv:List Ins:=[⟨1,⟨#[107]⟩,0⟩,⟨15,⟨#[]⟩,0⟩]
def ie (b:ByteArray):List Ins:=[⟨1,b,0⟩,⟨12,⟨#[]⟩,0⟩,⟨15,⟨#[]⟩,0⟩]
theorem pu (w:E){base:Nat}(hb:base<=w.heap.size):(w.alloc (T #[Q I 1,U ⟨#[107]⟩,Q I 0,Q I 15,U ⟨#[]⟩,Q I 0] 188)).ownsRow base 188 3 (Z (N (J w.heap.size 0 Y)) 2 2) 2 (cB (lsI gv) 2) :=
 ⟨rfl,.inr ⟨w.heap.size,2,_,rfl,hb,eL w _,j6 _,by unfold maxLen;omega,rfl,rfl⟩⟩
theorem yN (w:E)(b:ByteArray){base:Nat}(hb:base<=w.heap.size):(w.alloc (T #[Q I 1,U b,Q I 0,Q I 12,U ⟨#[]⟩,Q I 0,Q I 15,U ⟨#[]⟩,Q I 0] 188)).ownsRow base 188 3 (Z (N (J w.heap.size 0 Y)) 3 3) 3 (cB (lsI (ie b)) 3) :=
 ⟨rfl,.inr ⟨w.heap.size,3,_,rfl,hb,eL w _,j6 _,by unfold maxLen;omega,rfl,rfl⟩⟩
theorem nG:∀ j,j<2->(lsI gv j).s.size<=5000:=sW (L:=gv) (by decide)
theorem xn {b:ByteArray}(h:b.size<=5000):∀ j,j<3->(lsI (ie b) j).s.size<=5000:=sW (L:=ie b) fun x d=>by
 simp only[ie,BC,nj,or_false] at d;rcases d with rfl | rfl | rfl
 ·exact h
 ·exact CS _
 ·exact CS _
theorem mo {w:E}{base size n g c j:Nat}{e:QF}{b:List QB}(h:w.ownsRow base e size (Z (N (J g 0 Y)) n c) n b)(u:QB):(w.setCell (J g j Y) u).ownsRow base e size (Z (N (J g 0 Y)) n c) n (b.set j u):=by
 rcases h with ⟨i,⟨h2,_⟩ | ⟨g',cap,d,m,hb,l,o,k,f,p⟩⟩
 ·cases h2
 ·cases m
  refine⟨by rw[IT];exact i,.inr ⟨g,c,d.setIfInBounds j u,rfl,hb,ee l u,o,k,by rw[Array.size_setIfInBounds];exact f,?_⟩⟩;rw[<-p,JN,NO]
theorem AU {w:E}{base b j:Nat}{RT:List TR}(h:∀ r∈RT,RowIns w r.2.1 0 r.1.actN r.1.act/\(∃ F,Cells w r.2.1 0 (r.1.actN*3) F)/\TypeAt w r.2.1 188/\base<=r.2.1)(k:TypeAt w b 108)(u:QB):∀ r∈RT,RowIns (w.setCell (J b j Y) u) r.2.1 0 r.1.actN r.1.act/\(∃ F,Cells (w.setCell (J b j Y) u) r.2.1 0 (r.1.actN*3) F)/\TypeAt (w.setCell (J b j Y) u) r.2.1 188/\base<=r.2.1:=by
 intro r i;obtain⟨h1,⟨F,h2⟩,f,g⟩:=h r i
 have e:(w.setCell (J b j Y) u).heap[r.2.1]?=w.heap[r.2.1]?:=qh w (J b j Y) u r.2.1 (by
  intro d;have d:r.2.1=b:=d
  exact ey f (d ▸ k) (by decide) rfl)
 exact⟨h1.block (by simp) e,⟨F,h2.block (by simp) e⟩,f.block e,g⟩
theorem dH {base X j:Nat}{w:E}(hX:X<base)(u:QB):Agr base w (w.setCell (J X j Y) u) :=
 ⟨by simp,fun k h1 _=>qh w (J X j Y) u k (by intro e;have e:k=X:=e;omega)⟩
abbrev TO:=Target × Option Addr × Nat
def toV (r:TO):List QB:=[U r.1.name,Z r.2.1 r.1.actN r.2.2]
def upO (r:TR):TO:=(r.1,N (J r.2.1 0 Y),r.2.2)
theorem nH (RT:List TR):RT.flatMap aV=(RT.map upO).flatMap toV:=by rw[LB];rfl
theorem sX {w:E}{base c:Nat}{a:Option Addr}{L:List TO}(h:w.ownsRow base 108 2 (Z a L.length c) L.length (L.flatMap toV))(d:∀ r∈L,SlIns w r.2.1 r.1.actN r.1.act):SlTarget w a L.length (bo (L.map (·.1))):=by
 by_cases f:L.length=0
 ·exact .inl f
 ·obtain⟨g,c',e⟩:=dS h (by omega)
  simp at e;obtain⟨rfl,rfl⟩:=e;refine .inr ⟨g,0,rfl,(dR h).2,fun i hi=>?_⟩;have b:L[i]?=N L[i]:=gq hi;have k:bo (L.map (·.1)) i=L[i].1:=by simp[bo,hi]
  rw[k];refine⟨?_,L[i].2.1,L[i].2.2,?_,d _ (gz hi)⟩
  ·have:=(bv h (j:=i*2) (u:=U L[i].1.name) (by have:=cS toV 2 (fun _=>rfl) L i 0 (by omega) _ b;simpa[toV] using this)).1
   rwa[show 0+i*2=i*2 by omega]
  ·have:=(bv h (j:=i*2+1) (u:=Z L[i].2.1 L[i].1.actN L[i].2.2) (by have:=cS toV 2 (fun _=>rfl) L i 1 (by omega) _ b;simpa[toV] using this)).1
   rwa[show 0+i*2+1=i*2+1 by omega]
structure SpX (rr xb base:Nat)(W:E)(v0 v1:QB)(LS:List Source)(RT:List TR):Prop where
 res:W.heap[rr]?=N (T #[Z Y 0 0,Z Y 0 0] 26 (0,0))
 box:W.heap[xb]?=N (T #[v0,v1] 26 (0,0))
 lo:rr<base
 hi:base<=xb
 src:W.ownsRow base 104 2 v0 LS.length (LS.flatMap bC)
 tgt:TRow W base v1 RT
section
variable {W W':E}{R rr xb base:Nat}{v0 v1:QB}{LS:List Source}{RT:List TR}
theorem SpX.lt (h:SpX rr xb base W v0 v1 LS RT):xb<W.heap.size:=aC h.box
theorem SpX.cells (h:SpX rr xb base W v0 v1 LS RT):W.cell? (J xb 0 Y)=N v0/\W.cell? (J xb 1 Y)=N v1:=by have hb:=h.box;refine⟨?_,?_⟩<;>simp[World.cell?,hb]
def BxS (v0 v1:QB)(xb:Nat)(V:E):Prop:=V.heap[xb]?=N (T #[v0,v1] 26 (0,0))/\V.cell? (J xb 0 Y)=N v0
def BxT (v0 v1:QB)(xb:Nat)(V:E):Prop:=V.heap[xb]?=N (T #[v0,v1] 26 (0,0))/\V.cell? (J xb 1 Y)=N v1
theorem ig (h:W.heap[xb]?=N (T #[v0,v1] 26 (0,0))):BxS v0 v1 xb W:=⟨h,by simp[World.cell?,h]⟩
theorem sY (h:W.heap[xb]?=N (T #[v0,v1] 26 (0,0))):BxT v0 v1 xb W:=⟨h,by simp[World.cell?,h]⟩
theorem SpX.keepS (h:SpX rr xb base W v0 v1 LS RT)(V:E)(d:∀ j,j<W.heap.size->N j≠v0.ownBlock->V.heap[j]?=W.heap[j]?):BxS v0 v1 xb V :=
 ig ((d xb h.lt fun e=>by
  obtain⟨cur,b⟩:=dQ h.src _ e.symm
  cases h.box.symm.trans b).trans h.box)
theorem SpX.keepT (h:SpX rr xb base W v0 v1 LS RT)(V:E)(d:∀ j,j<W.heap.size->N j≠v1.ownBlock->V.heap[j]?=W.heap[j]?):BxT v0 v1 xb V :=
 sY ((d xb h.lt fun e=>by
  obtain⟨cur,b⟩:=h.tgt.type _ e.symm
  cases h.box.symm.trans b).trans h.box)
theorem SpX.open (h:SpX rr xb base W v0 v1 LS RT):W.frozen? (J xb 0 Y)=false/\W.frozen? (J xb 1 Y)=false:=by have hb:=h.box;refine⟨?_,?_⟩<;>simp[World.frozen?,hb]
theorem SpX.below (h:SpX rr xb base W v0 v1 LS RT){B:Nat}(hb:Below B W W')(b:W.heap.size<=B):SpX rr xb base W' v0 v1 LS RT:=by have hl:=h.lt;have:=h.lo;have:=h.hi;exact⟨(hb.block rr (by omega)).trans h.res,(hb.block xb (by omega)).trans h.box,h.lo,h.hi,own_below h.src hb b,h.tgt.below hb b⟩
theorem SpX.only (h:SpX rr xb base W v0 v1 LS RT)(b:Only R W W')(hR:R<rr):SpX rr xb base W' v0 v1 LS RT:=by have hl:=h.lt;have h1:=h.lo;have h2:=h.hi;exact⟨(b.block rr (by omega) (by omega)).trans h.res,(b.block xb (by omega) (by omega)).trans h.box,h1,h2,gy h.src b (by omega),h.tgt.only b (by omega)⟩
theorem SpX.addT {x:Target}{g c:Nat}{b:QB}(h:SpX rr xb base W v0 v1 LS RT)(n:∀ r∈RT,r.2.1≠g)(l:W.ownsRow base 188 3 (Z (N (J g 0 Y)) x.actN c) x.actN (cB x.act x.actN))
  (f:W'.ownsRow base 108 2 b (RT.length+1) (RT.flatMap aV++aV (x,g,c))) (d:W.grownBy W' v1.ownBlock):SpX rr xb base (W'.setCell (J xb 1 Y) b) v0 b LS (RT++[(x,g,c)])/\Below base W (W'.setCell (J xb 1 Y) b):=by
 have hlt:=h.lt;have h1:=h.lo;have h2:=h.hi;have hb:base<=g:=(l.lt g rfl).1;have m:Below base W W':=(eI base W).grown d (by omega) fun k o=>(h.tgt.own.lt k o).1;have j:Below base W (W'.setCell (J xb 1 Y) b):=m.setCell (p:=(J xb 1 Y)) h2 b;have i:W'.heap[xb]?=N (T #[v0,v1] 26 (0,0)):=gS d h.tgt.type h.box (by decide);refine⟨⟨(j.block rr h1).trans h.res,ee i b,h1,h2,?_,?_⟩,j⟩
 ·refine eW (h.src.kept d ?_) i (by decide) b
  cases hv:v0.ownBlock with
  | none=>exact .inl rfl
  | some k=>exact .inr fun e=>ey (dQ h.src k hv) (h.tgt.type k e.symm) (by decide) rfl
 ·exact jK (h.tgt.more2 n hb l f d) i (by decide) (by decide) b
theorem SpX.addS {x:Source}{b:QB}(h:SpX rr xb base W v0 v1 LS RT)(f:W'.ownsRow base 104 2 b (LS.length+1) (LS.flatMap bC++bC x))(i:W.grownBy W' v0.ownBlock):SpX rr xb base (W'.setCell (J xb 0 Y) b) b v1 (LS++[x]) RT/\Below base W (W'.setCell (J xb 0 Y) b):=by
 have hlt:=h.lt;have h1:=h.lo;have h2:=h.hi;have m:Below base W W':=(eI base W).grown i (by omega) fun k g=>(h.src.lt k g).1;have l:Below base W (W'.setCell (J xb 0 Y) b):=m.setCell (p:=(J xb 0 Y)) h2 b;have d:W'.heap[xb]?=N (T #[v0,v1] 26 (0,0)):=gS i (dQ h.src) h.box (by decide);refine⟨⟨(l.block rr h1).trans h.res,ee d b,h1,h2,?_,?_⟩,l⟩
 ·have n:=eW f d (by decide) (j:=0) b
  rw[cM,IC];simpa using n
 ·exact jK (oH h.tgt i fun k g=>dQ h.src k g) d (by decide) (by decide) b
theorem TRow.mono {base base':Nat}(h:TRow W base v1 RT)(hb:base'<=base):TRow W base' v1 RT :=
 ⟨aI h.own hb,fun r d=>by obtain⟨h1,h2,b,h4⟩:=h.act r d;exact⟨h1,h2,b,by omega⟩,h.up⟩
theorem pw {base':Nat}(d:W.heap[rr]?=N (T #[Z Y 0 0,Z Y 0 0] 26 (0,0)))(b:rr<base)(hb:base<=base')(hz:base<=W.heap.size)(g:W.ownsRow base' 104 2 v0 LS.length (LS.flatMap bC))(f:TRow W base' v1 RT):SpX rr W.heap.size base (W.alloc (T #[v0,v1] 26)) v0 v1 LS RT:=by have A:=(Qs W).alloc lr (T #[v0,v1] 26);exact⟨(A.block rr (aC d)).trans d,eL W _,b,hz,own_below (aI g hb) A lr,(f.mono hb).below A lr⟩
theorem SpX.fin {a0 a1:Option Addr}{n0 c0 n1 c1:Nat}(h:SpX rr xb base W (Z a0 n0 c0) (Z a1 n1 c1) LS RT)(b:n0=LS.length)(f:n1=RT.length)(d:LS.length<=300)(h1:RT.length<=300)(g:GX RT)(u v:QB):HSp base ((W.setCell (J rr 0 Y) u).setCell (J rr 1 Y) v) a0 n0 (aP LS) a1 n1 (bo (RT.map (·.1))) :=
 fo (aG (aG h.src h.lo u) h.lo v) b ((h.tgt.set h.lo u).set h.lo v) f d h1 g
theorem SpX.addNil {nm:ByteArray}{a0 a1:Option Addr}{c0 c1:Nat}(h:SpX rr xb base W (Z a0 LS.length c0) v1 LS RT)(m:W'.ownsRow base 108 2 (Z a1 (RT.length+1) c1) (RT.length+1) (RT.flatMap aV++[U nm,Z Y 0 0]))(d:W.grownBy W' v1.ownBlock)(K:LS.length<=300)(h1:RT.length<=299)(C:GX RT):HSp base (W'.setCell (J xb 1 Y) (Z a1 (RT.length+1) c1)) a0 LS.length (aP LS) a1 (RT.length+1) (bo (RT.map (·.1)++[⟨nm,0,fun _=>⟨0,⟨#[]⟩,0⟩⟩]))/\(W'.setCell (J xb 1 Y) (Z a1 (RT.length+1) c1)).heap[xb]?=N (T #[Z a0 LS.length c0,Z a1 (RT.length+1) c1] 26 (0,0))/\(W'.setCell (J xb 1 Y) (Z a1 (RT.length+1) c1)).heap[rr]?=N (T #[Z Y 0 0,Z Y 0 0] 26 (0,0))/\Below base W (W'.setCell (J xb 1 Y) (Z a1 (RT.length+1) c1)):=by
 have hlt:=h.lt;have QN:=h.lo;have M:=h.hi;have B:Below base W W':=(eI base W).grown d (by omega) fun k H=>(h.tgt.own.lt k H).1;have s:Below base W (W'.setCell (J xb 1 Y) (Z a1 (RT.length+1) c1)):=B.setCell (p:=(J xb 1 Y)) M _;have g:W'.heap[xb]?=N (T #[Z a0 LS.length c0,v1] 26 (0,0)):=gS d h.tgt.type h.box (by decide);have n:(W'.setCell (J xb 1 Y) (Z a1 (RT.length+1) c1)).ownsRow base 104 2 (Z a0 LS.length c0) LS.length (LS.flatMap bC):=by
  refine eW (h.src.kept d ?_) g (by decide) _;cases hv:(Value.slice a0 LS.length c0).ownBlock with
  | none=>exact .inl rfl
  | some k=>exact .inr fun e=>ey (dQ h.src k hv) (h.tgt.type k e.symm) (by decide) rfl
 have t:=eW m g (by decide) (j:=1) (Z a1 (RT.length+1) c1);refine⟨⟨fun V f=>⟨jO (iN n f),?_⟩,K,by omega,fun i hi=>?_⟩,ee g _,(s.block rr QN).trans h.res,s⟩
 ·have q:RT.length+1=(RT.map upO++[((⟨nm,0,fun _=>⟨0,⟨#[]⟩,0⟩⟩,Y,0):TO)]).length:=by simp
  have u:=iN t f;rw[nH,show(RT.map upO).flatMap toV++[U nm,Z Y 0 0]=(RT.map upO++[((⟨nm,0,fun _=>⟨0,⟨#[]⟩,0⟩⟩,Y,0):TO)]).flatMap toV by rw[IC];rfl,q] at u;have QP:=sX u ?_
  ·rw[q]
   have G:(RT.map upO++[((⟨nm,0,fun _=>⟨0,⟨#[]⟩,0⟩⟩,Y,0):TO)]).map (·.1)=RT.map (·.1)++[⟨nm,0,fun _=>⟨0,⟨#[]⟩,0⟩⟩]:=by rw[FB,List.map_map];rfl
   rw[<-G];exact QP
  ·intro r b
   rcases kS.1 b with b | b
   ·obtain⟨y,QQ,rfl⟩:=ID.1 b
    obtain⟨z,_,A,L⟩:=h.tgt.act y QQ;have z1:=d.block y.2.1 z.1 (fun e=>ey A (h.tgt.type _ e.symm) (by decide) rfl);have z2:=z.block d.size z1;have z3:RowIns (W'.setCell (J xb 1 Y) (Z a1 (RT.length+1) c1)) y.2.1 0 y.1.actN y.1.act:=by refine z2.block (by simp) (qh W' (J xb 1 Y) _ y.2.1 ?_);intro o;have o:y.2.1=xb:=o;obtain⟨cur,x⟩:=A.block z1;rw[o] at x;have:=g.symm.trans x;cases this
    exact(z3.block f.1 (f.2 y.2.1 L z3.1)).sl
   ·rw[j3.1 b]
    exact .inl rfl
 ·by_cases l:i<RT.length
  ·have e:bo (RT.map (·.1)++[⟨nm,0,fun _=>⟨0,⟨#[]⟩,0⟩⟩]) i=RT[i].1:=by simp[bo,List.getElem?_append,l]
   rw[e];exact C _ (gz l)
  ·have e:bo (RT.map (·.1)++[⟨nm,0,fun _=>⟨0,⟨#[]⟩,0⟩⟩]) i=⟨nm,0,fun _=>⟨0,⟨#[]⟩,0⟩⟩:=by
    obtain rfl:i=RT.length:=by omega
    simp[bo]
   rw[e];exact⟨by show 0<=300;omega,fun j QO=>absurd QO (CV _)⟩
theorem SpX.setS {b c0 j:Nat}{LS':List Source}(h:SpX rr xb base W (Z (N (J b 0 Y)) LS.length c0) v1 LS RT)(u:QB)(i:LS'.length=LS.length)(k:(LS.flatMap bC).set j u=LS'.flatMap bC):SpX rr xb base (W.setCell (J b j Y) u) (Z (N (J b 0 Y)) LS.length c0) v1 LS' RT/\Below base W (W.setCell (J b j Y) u):=by
 have hb:=(h.src.lt b rfl).1;obtain⟨cur,f⟩:=dQ h.src b rfl;have far:∀ (X:Nat) d,W.heap[X]?=N (T d 26 (0,0))->(W.setCell (J b j Y) u).heap[X]?=N (T d 26 (0,0)):=by intro X d g;refine(qh W (J b j Y) u X ?_).trans g;intro e;have e:X=b:=e;subst e;have:=g.symm.trans f;cases this
 refine⟨⟨far _ _ h.res,far _ _ h.box,h.lo,h.hi,?_,jK h.tgt f (by decide) (by decide) u⟩,(eI base W).setCell (p:=(J b j Y)) hb u⟩;have h2:=mo h.src (j:=j) u;rw[k] at h2;rw[i];exact h2
theorem ve {a0 a1:Option Addr}{n0 c0 n1 c1:Nat}{L:List TO}(h:W.ownsRow base 104 2 (Z a0 n0 c0) LS.length (LS.flatMap bC))(f:n0=LS.length)(m:W.ownsRow base 108 2 (Z a1 n1 c1) n1 (L.flatMap toV))(k:n1=L.length)(p:LS.length<=300)(h1:L.length<=300)
  (o:∀ r∈L,∃ g,r.2.1=N (J g 0 Y)/\base<=g/\RowIns W g 0 r.1.actN r.1.act) (l:∀ r∈L,r.1.actN<=300/\∀ j,j<r.1.actN->(r.1.act j).s.size<=5000):HSp base W a0 n0 (aP LS) a1 n1 (bo (L.map (·.1))):=by
 subst f k;refine⟨fun V b=>⟨jO (iN h b),sX (iN m b) fun r n=>?_⟩,p,h1,fun i hi=>?_⟩
 ·obtain⟨g,e,hb,d⟩:=o r n
  rw[e];exact(d.block b.1 (b.2 g hb d.1)).sl
 ·have e:bo (L.map (·.1)) i=L[i].1:=by simp[bo,hi]
  rw[e];exact l _ (gz hi)
theorem jt {b size n c:Nat}{e:QF}{a:Option Addr}{d:List QB}(h:W.ownsRow b e size (Z a n c) n d)(f:0<n):∃ g,a=N (J g 0 Y):=by obtain⟨g,c',e⟩:=dS h f;simp at e;exact⟨g,e.1⟩
end
end Go.Proofs.YtkdimgejdocbbaaGreatDoor.Vp
