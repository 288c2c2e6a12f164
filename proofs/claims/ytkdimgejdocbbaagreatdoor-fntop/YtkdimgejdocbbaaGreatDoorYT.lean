import Derived.Test.YtkdimgejdocbbaaGreatDoorYQ
import Derived.Test.YtkdimgejdocbbaaGreatDoorZZ
open Go.Addr renaming mk->J
open Go.Value renaming slice->Y,string->U,int->N
open Option renaming none->Z,some->Q
open Go.Obj renaming cells->T
open Go.IntKind renaming i64->I
open Go renaming World->E,Value->QB,TypeId->QF
namespace Go.Proofs.YtkdimgejdocbbaaGreatDoor.Vp
open RowKit
theorem yJ (L:List I3):i3L L=cB (ez L) L.length:=by
 have e:(List.range L.length).map (ez L)=L.map fun x=>(⟨x.1,⟨x.2.1.toArray⟩,x.2.2⟩:Ins):=by
  refine MR (by simp) fun i h1 h2=>?_;have hi:i<L.length:=by simpa using h2
  simp[ez,hi]
 rw[cB,e,KV];rfl
structure PrG (base:Nat)(W:E)(RT:List TR)(b g c n:Nat)(f:Nat->Ins):Prop where
 blk:PB W b (Y (Q (J g 0 Z)) n c)
 own:W.ownsRow base 188 3 (Y (Q (J g 0 Z)) n c) n (cB f n)
 new:∀ r∈RT,r.2.1≠g
 lo:base<=b
 num:1<=n/\n<=200
 sz:∀ j,j<n->(f j).s.size<=5000
section
variable {W W':E}{base R b g c n:Nat}{f:Nat->Ins}{RT:List TR}
theorem PrG.below (h:PrG base W RT b g c n f){B:Nat}(hb:Below B W W')(d:W.heap.size<=B):PrG base W' RT b g c n f :=
 ⟨h.blk.below hb (ll h.blk.lt d),own_below h.own hb d,h.new,h.lo,h.num,h.sz⟩
theorem PrG.only (h:PrG base W RT b g c n f)(d:Only R W W')(hR:R<base):PrG base W' RT b g c n f :=
 ⟨(d.block b h.blk.lt (by have:=h.lo;omega)).trans h.blk,gy h.own d hR,h.new,h.lo,h.num,h.sz⟩
theorem TRow.ltg {w:E}{base:Nat}{v:QB}{R:List TR}(h:TRow w base v R):∀ r∈R,r.2.1<w.heap.size:=fun r b=>(h.act r b).1.1
theorem TRow.atk {w:E}{base c k:Nat}{a:Option Addr}{R:List TR}(h:TRow w base (Y a R.length c) R)(i:k<R.length):∃ (b:Nat) (r:TR),a=Q (J b 0 Z)/\b<w.heap.size/\r∈R/\w.cell? (J b (k*2) Z)=Q (U r.1.name)/\w.cell? (J b (k*2+1) Z)=Q (Y (Q (J r.2.1 0 Z)) r.1.actN r.2.2)/\SlIns w (Q (J r.2.1 0 Z)) r.1.actN r.1.act:=by
 obtain⟨g,c',e⟩:=dS h.own (by omega);simp at e;obtain⟨rfl,rfl⟩:=e;obtain⟨r,d,f⟩:=uK i;refine⟨g,r,rfl,(dR h.own).2,f,?_,?_,(h.act r f).1.sl⟩
 ·exact(bv h.own (j:=k*2) (u:=U r.1.name) (by have:=cS aV 2 (fun _=>rfl) R k 0 (by omega) _ d;simpa[aV] using this)).1
 ·exact(bv h.own (j:=k*2+1) (u:=Y (Q (J r.2.1 0 Z)) r.1.actN r.2.2) (by have:=cS aV 2 (fun _=>rfl) R k 1 (by omega) _ d;simpa[aV] using this)).1
theorem nF {L:List I3}(d:∀ i∈L,i.2.1.length<=5000):∀ j,j<L.length->(ez L j).s.size<=5000:=by
 intro j b;have e:ez L j=⟨L[j].1,⟨L[j].2.1.toArray⟩,L[j].2.2⟩:=by simp[ez,b]
 rw[e];show L[j].2.1.toArray.size<=5000;simpa using d _ (gz b)
theorem yK {L:List I3}{lo:Nat}(f:IR W lo g c L)(d:base<=lo)(b:∀ r∈RT,r.2.1<lo)(h:base<=W.heap.size)(h1:1<=L.length/\L.length<=200)(j:∀ i∈L,i.2.1.length<=5000):PrG base (W.alloc (T #[Y (Q (J g 0 Z)) L.length c] 31)) RT W.heap.size g c L.length (ez L):=by
 have hg:=f.lt;refine⟨eL W _,?_,fun r k e=>by have:=b r k;omega,h,h1,nF j⟩;have h2:W.ownsRow base 188 3 (Y (Q (J g 0 Z)) L.length c) L.length (cB (ez L) L.length):=by rw[<-yJ];exact aI f d
 exact own_below h2 ((Qs W).alloc lr _) lr
theorem PrG.put {i c2 d:Nat}{l:Nat->Ins}{lo:Nat}(h:PrG base W RT b g c n f)(o:W.ownsRow lo 188 3 (Y (Q (J i 0 Z)) d c2) d (cB l d))(q:base<=lo)(m:∀ r∈RT,r.2.1<lo)(h1:1<=d/\d<=200)(QQ:∀ j,j<d->(l j).s.size<=5000):PrG base (W.setCell (J b 0 Z) (Y (Q (J i 0 Z)) d c2)) RT b i c2 d l:=by
 have u:=(World.ownsRow.lt o i rfl).1;refine⟨h.blk.set _,?_,fun r C e=>by have:=m r C;omega,h.lo,h1,QQ⟩;have p:b≠i:=by intro e;subst e;obtain⟨k,u⟩:=iX o;have:=h.blk.symm.trans u;cases this
 refine aI ?_ q;rcases o with ⟨z,h2 | ⟨B,x,k,y,hb,t,A⟩⟩
 ·exact⟨z,.inl h2⟩
 ·refine⟨z,.inr ⟨B,x,k,y,hb,?_,A⟩⟩
  cases y
  exact(qh W (J b 0 Z) _ i (fun e=>p e.symm)).trans t
theorem SpB.putP {rb:Nat}{v0 v1:QB}{LS:List Source}{v:QB}(h:SpB rb W v0 v1 LS RT)(C:PB W b v)(hb:rb+2<=b)(u:QB):SpB rb (W.setCell (J b 0 Z) u) v0 v1 LS RT:=by
 have far:∀ k,k≠b->(W.setCell (J b 0 Z) u).heap[k]?=W.heap[k]?:=fun k m=>qh W (J b 0 Z) u k (by simpa using m);have l:W.heap.size<=(W.setCell (J b 0 Z) u).heap.size:=by simp[World.setCell]
 have i:∀ k e,TypeAt W k e->e≠31->k≠b:=by
  intro k e ⟨f,m⟩ q s;subst s;have:=C.symm.trans m;cases this
  exact q rfl
 have d:∀ {e:QF} {size n:Nat} {x:QB} {o:List QB},W.ownsRow (rb+2) e size x n o->e≠31->(W.setCell (J b 0 Z) u).ownsRow (rb+2) e size x n o:=by
  intro e size n x o A q;rcases A with ⟨y,h2 | ⟨p,t,f,s,z,j,g⟩⟩
  ·exact⟨y,.inl h2⟩
  ·exact⟨y,.inr ⟨p,t,f,s,z,(far p (i p e ⟨f,j⟩ q)).trans j,g⟩⟩
 refine⟨(far rb (by omega)).trans h.res,(far (rb+1) (by omega)).trans h.box,d h.src (by decide),d h.tgt.own (by decide),fun r B=>?_,h.tgt.up⟩;obtain⟨h1,⟨F,h2⟩,g,QQ⟩:=h.tgt.act r B;have e:=far r.2.1 (i r.2.1 188 g (by decide));exact⟨h1.block l e,⟨F,h2.block l e⟩,g.block e,QQ⟩
def Et (nm tx:ByteArray)(z:Int)(i:Nat):Ins:=([⟨1,nm,0⟩,⟨12,⟨#[]⟩,0⟩,⟨1,tx,0⟩,⟨2,⟨#[]⟩,0⟩,⟨3,⟨#[]⟩,z⟩,⟨15,⟨#[]⟩,0⟩]:List Ins).getD i ⟨0,⟨#[]⟩,0⟩
theorem yM {nm tx:ByteArray}{z:Int}(h1:nm.size<=5000)(h2:tx.size<=5000):∀ j,j<6->(Et nm tx z j).s.size<=5000:=by
 have b:(⟨#[]⟩:ByteArray).size<=5000:=CP _;intro j d;match j,d with
 | 0,_=>exact h1
 | 1,_=>exact b
 | 2,_=>exact h2
 | 3,_=>exact b
 | 4,_=>exact b
 | 5,_=>exact b
 | k+6,h=>exact absurd h (by omega)
abbrev pr (nm tx:ByteArray)(z:Int):Array QB:=#[N I 1,U nm,N I 0,N I 12,U ⟨#[]⟩,N I 0,N I 1,U tx,N I 0,N I 2,U ⟨#[]⟩,N I 0,N I 3,U ⟨#[]⟩,N I z,N I 15,U ⟨#[]⟩,N I 0]
theorem PrG.six (h:PrG base W RT b g c n f)(i:∀ r∈RT,r.2.1<W.heap.size)(j:base<=W.heap.size)(nm tx:ByteArray)(z:Int)(h1:nm.size<=5000)(h2:tx.size<=5000):PrG base ((W.setCell (J b 0 Z) (Y (Q (J W.heap.size 0 Z)) 6 6)).alloc (T (pr nm tx z) 188)) RT b W.heap.size 6 6 (Et nm tx z):=by
 have hz:(W.setCell (J b 0 Z) (Y (Q (J W.heap.size 0 Z)) 6 6)).heap.size=W.heap.size:=by simp
 have A:=(eI W.heap.size (W.setCell (J b 0 Z) (Y (Q (J W.heap.size 0 Z)) 6 6))).alloc (by rw[hz];exact j6 _) (T (pr nm tx z) 188);refine⟨(h.blk.set _).below A h.blk.lt,?_,fun r k e=>by have:=i r k;omega,h.lo,⟨by omega,by omega⟩,yM h1 h2⟩;have d:=eL (W.setCell (J b 0 Z) (Y (Q (J W.heap.size 0 Z)) 6 6)) (T (pr nm tx z) 188);rw[hz] at d;exact⟨rfl,.inr ⟨W.heap.size,6,pr nm tx z,rfl,j,d,j6 _,by unfold maxLen;omega,rfl,rfl⟩⟩
end
theorem eW {w:E}{base size n X j:Nat}{e t:QF}{v:QB}{b:List QB}{l:Array QB}{fz:Nat × Nat}(h:w.ownsRow base e size v n b)(q:w.heap[X]?=Q (T l t fz))(m:t≠e)(u:QB):(w.setCell (J X j Z) u).ownsRow base e size v n b:=by
 rcases h with ⟨k,h2 | ⟨g,f,i,r,hb,d,o⟩⟩
 ·exact⟨k,.inl h2⟩
 ·refine⟨k,.inr ⟨g,f,i,r,hb,(qh w (J X j Z) u g ?_).trans d,o⟩⟩
  intro p;obtain rfl:g=X:=p;have:=q.symm.trans d;cases this
  exact m rfl
theorem jK {w:E}{base X j:Nat}{t:QF}{v:QB}{R:List TR}{f:Array QB}{fz:Nat × Nat}(h:TRow w base v R)(d:w.heap[X]?=Q (T f t fz))(g:t≠108)(hi:t≠188)(u:QB):TRow (w.setCell (J X j Z) u) base v R:=by
 refine⟨eW h.own d g u,fun r k=>?_,h.up⟩;obtain⟨h1,⟨F,h2⟩,b,m⟩:=h.act r k
 have e:(w.setCell (J X j Z) u).heap[r.2.1]?=w.heap[r.2.1]?:=qh w (J X j Z) u r.2.1 (by
  intro i;obtain rfl:r.2.1=X:=i;obtain⟨cur,l⟩:=b;have:=d.symm.trans l;cases this
  exact hi rfl)
 exact⟨h1.block (by simp) e,⟨F,h2.block (by simp) e⟩,b.block e,m⟩
theorem gS {w f:E}{X:Nat}{v:QB}{e t:QF}{d:Array QB}{fz:Nat × Nat}(i:w.grownBy f v.ownBlock)(j:∀ k,v.ownBlock=Q k->TypeAt w k e)(b:w.heap[X]?=Q (T d t fz))(g:t≠e):f.heap[X]?=Q (T d t fz):=by
 refine(i.block X (aC b) fun l=>?_).trans b;obtain⟨cur,h⟩:=j X l.symm;have:=b.symm.trans h;cases this
 exact g rfl
def GX (RT:List TR):Prop:=∀ r∈RT,r.1.actN<=300/\∀ j,j<r.1.actN->(r.1.act j).s.size<=5000
theorem GX.add {RT:List TR}(h:GX RT){r:TR}(h1:r.1.actN<=300)(h2:∀ j,j<r.1.actN->(r.1.act j).s.size<=5000):GX (RT++[r]):=by
 intro y b;rcases kP.1 b with b | b
 ·exact h y b
 ·rw[j3.1 b];exact⟨h1,h2⟩
theorem vd {f:Nat->Target}{t:ByteArray}{n:Nat}{R:List TR}(hM:R.map (·.1)=keepT f t n)(b:∀ i,i<n->(f i).actN<=300/\∀ j,j<(f i).actN->((f i).act j).s.size<=5000):GX R:=by
 intro r d;have h1:r.1∈keepT f t n:=by rw[<-hM];exact LC d
 have h2:=(M2.1 h1).1;obtain⟨i,hi,e⟩:=IC.1 h2;rw[<-e];exact b i (BO.1 hi)
theorem Dt {f:Nat->Target}{t:ByteArray}{n:Nat}{R:List TR}(hM:R.map (·.1)=keepT f t n)(b:∀ i,i<n->1<=(f i).actN/\(f i).actN<=200):∀ r∈R,1<=r.1.actN/\r.1.actN<=200:=by
 intro r d;have h1:r.1∈keepT f t n:=by rw[<-hM];exact LC d
 have h2:=(M2.1 h1).1;obtain⟨i,hi,e⟩:=IC.1 h2;rw[<-e];exact b i (BO.1 hi)
theorem oL {f:Nat->Target}{t:ByteArray}{n:Nat}{R:List TR}(hM:R.map (·.1)=keepT f t n):R.length<=n:=by
 have h1:R.length=(keepT f t n).length:=by rw[<-hM,IZ]
 have:=MH (fun x:Target=>!(x.name.toList == t.toList)) ((List.range n).map f);rw[h1];simpa[keepT] using this
def lsI (L:List Ins)(i:Nat):Ins:=L.getD i ⟨0,⟨#[]⟩,0⟩
theorem sW {L:List Ins}(h:∀ x∈L,x.s.size<=5000):∀ j,j<L.length->(lsI L j).s.size<=5000:=by
 intro j b;have e:lsI L j=L[j]:=by simp[lsI,b]
 rw[e];exact h _ (gz b)
theorem kO {w:E}{z:Nat}(hz:w.heap.size=z)(x y:QB)(t:QF):∀ j u,[x,y][j]?=Q u->(w.alloc (T #[x,y] t)).cell? (((J z 0 Z):Addr).add j)=Q u:=by subst hz;exact cT w x y t
def gv:List Ins:=[⟨1,⟨#[107]⟩,0⟩,⟨15,⟨#[]⟩,0⟩]
def ie (b:ByteArray):List Ins:=[⟨1,b,0⟩,⟨12,⟨#[]⟩,0⟩,⟨15,⟨#[]⟩,0⟩]
theorem pu (w:E){base:Nat}(hb:base<=w.heap.size):(w.alloc (T #[N I 1,U ⟨#[107]⟩,N I 0,N I 15,U ⟨#[]⟩,N I 0] 188)).ownsRow base 188 3 (Y (Q (J w.heap.size 0 Z)) 2 2) 2 (cB (lsI gv) 2) :=
 ⟨rfl,.inr ⟨w.heap.size,2,_,rfl,hb,eL w _,j6 _,by unfold maxLen;omega,rfl,rfl⟩⟩
theorem yN (w:E)(b:ByteArray){base:Nat}(hb:base<=w.heap.size):(w.alloc (T #[N I 1,U b,N I 0,N I 12,U ⟨#[]⟩,N I 0,N I 15,U ⟨#[]⟩,N I 0] 188)).ownsRow base 188 3 (Y (Q (J w.heap.size 0 Z)) 3 3) 3 (cB (lsI (ie b)) 3) :=
 ⟨rfl,.inr ⟨w.heap.size,3,_,rfl,hb,eL w _,j6 _,by unfold maxLen;omega,rfl,rfl⟩⟩
theorem nG:∀ j,j<2->(lsI gv j).s.size<=5000:=sW (L:=gv) (by decide)
theorem xn {b:ByteArray}(h:b.size<=5000):∀ j,j<3->(lsI (ie b) j).s.size<=5000:=sW (L:=ie b) fun x d=>by
 simp only[ie,BC,nj,or_false] at d;rcases d with rfl | rfl | rfl
 ·exact h
 ·exact CP _
 ·exact CP _
theorem mo {w:E}{base size n g c j:Nat}{e:QF}{b:List QB}(h:w.ownsRow base e size (Y (Q (J g 0 Z)) n c) n b)(u:QB):(w.setCell (J g j Z) u).ownsRow base e size (Y (Q (J g 0 Z)) n c) n (b.set j u):=by
 rcases h with ⟨p,⟨h2,_⟩ | ⟨g',cap,d,l,hb,i,f,m,o,k⟩⟩
 ·cases h2
 ·cases l
  refine⟨by rw[IS];exact p,.inr ⟨g,c,d.setIfInBounds j u,rfl,hb,ee i u,f,m,by rw[Array.size_setIfInBounds];exact o,?_⟩⟩;rw[<-k,JM,NK]
theorem AU {w:E}{base b j:Nat}{RT:List TR}(h:∀ r∈RT,RowIns w r.2.1 0 r.1.actN r.1.act/\(∃ F,Cells w r.2.1 0 (r.1.actN*3) F)/\TypeAt w r.2.1 188/\base<=r.2.1)(g:TypeAt w b 108)(u:QB):∀ r∈RT,RowIns (w.setCell (J b j Z) u) r.2.1 0 r.1.actN r.1.act/\(∃ F,Cells (w.setCell (J b j Z) u) r.2.1 0 (r.1.actN*3) F)/\TypeAt (w.setCell (J b j Z) u) r.2.1 188/\base<=r.2.1:=by
 intro r i;obtain⟨h1,⟨F,h2⟩,f,k⟩:=h r i
 have e:(w.setCell (J b j Z) u).heap[r.2.1]?=w.heap[r.2.1]?:=qh w (J b j Z) u r.2.1 (by
  intro d;have d:r.2.1=b:=d
  exact ey f (d ▸ g) (by decide) rfl)
 exact⟨h1.block (by simp) e,⟨F,h2.block (by simp) e⟩,f.block e,k⟩
theorem dH {base X j:Nat}{w:E}(hX:X<base)(u:QB):Agr base w (w.setCell (J X j Z) u) :=
 ⟨by simp,fun k h1 _=>qh w (J X j Z) u k (by intro e;have e:k=X:=e;omega)⟩
abbrev TO:=Target × Option Addr × Nat
def toV (r:TO):List QB:=[U r.1.name,Y r.2.1 r.1.actN r.2.2]
def upO (r:TR):TO:=(r.1,Q (J r.2.1 0 Z),r.2.2)
theorem nH (RT:List TR):RT.flatMap aV=(RT.map upO).flatMap toV:=by rw[KV];rfl
theorem sX {w:E}{base c:Nat}{a:Option Addr}{L:List TO}(h:w.ownsRow base 108 2 (Y a L.length c) L.length (L.flatMap toV))(d:∀ r∈L,SlIns w r.2.1 r.1.actN r.1.act):SlTarget w a L.length (bo (L.map (·.1))):=by
 by_cases f:L.length=0
 ·exact .inl f
 ·obtain⟨g,c',e⟩:=dS h (by omega)
  simp at e;obtain⟨rfl,rfl⟩:=e;refine .inr ⟨g,0,rfl,(dR h).2,fun i hi=>?_⟩;have b:L[i]?=Q L[i]:=gq hi;have k:bo (L.map (·.1)) i=L[i].1:=by simp[bo,hi]
  rw[k];refine⟨?_,L[i].2.1,L[i].2.2,?_,d _ (gz hi)⟩
  ·have:=(bv h (j:=i*2) (u:=U L[i].1.name) (by have:=cS toV 2 (fun _=>rfl) L i 0 (by omega) _ b;simpa[toV] using this)).1
   rwa[show 0+i*2=i*2 by omega]
  ·have:=(bv h (j:=i*2+1) (u:=Y L[i].2.1 L[i].1.actN L[i].2.2) (by have:=cS toV 2 (fun _=>rfl) L i 1 (by omega) _ b;simpa[toV] using this)).1
   rwa[show 0+i*2+1=i*2+1 by omega]
structure SpX (rr xb base:Nat)(W:E)(v0 v1:QB)(LS:List Source)(RT:List TR):Prop where
 res:W.heap[rr]?=Q (T #[Y Z 0 0,Y Z 0 0] 26 (0,0))
 box:W.heap[xb]?=Q (T #[v0,v1] 26 (0,0))
 lo:rr<base
 hi:base<=xb
 src:W.ownsRow base 104 2 v0 LS.length (LS.flatMap bC)
 tgt:TRow W base v1 RT
section
variable {W W':E}{R rr xb base:Nat}{v0 v1:QB}{LS:List Source}{RT:List TR}
theorem SpX.lt (h:SpX rr xb base W v0 v1 LS RT):xb<W.heap.size:=aC h.box
theorem SpX.cells (h:SpX rr xb base W v0 v1 LS RT):W.cell? (J xb 0 Z)=Q v0/\W.cell? (J xb 1 Z)=Q v1:=by have hb:=h.box;refine⟨?_,?_⟩<;>simp[World.cell?,hb]
def BxS (v0 v1:QB)(xb:Nat)(V:E):Prop:=V.heap[xb]?=Q (T #[v0,v1] 26 (0,0))/\V.cell? (J xb 0 Z)=Q v0
def BxT (v0 v1:QB)(xb:Nat)(V:E):Prop:=V.heap[xb]?=Q (T #[v0,v1] 26 (0,0))/\V.cell? (J xb 1 Z)=Q v1
theorem ig (h:W.heap[xb]?=Q (T #[v0,v1] 26 (0,0))):BxS v0 v1 xb W:=⟨h,by simp[World.cell?,h]⟩
theorem sY (h:W.heap[xb]?=Q (T #[v0,v1] 26 (0,0))):BxT v0 v1 xb W:=⟨h,by simp[World.cell?,h]⟩
theorem SpX.keepS (h:SpX rr xb base W v0 v1 LS RT)(V:E)(d:∀ j,j<W.heap.size->Q j≠v0.ownBlock->V.heap[j]?=W.heap[j]?):BxS v0 v1 xb V :=
 ig ((d xb h.lt fun e=>by
  obtain⟨cur,b⟩:=dQ h.src _ e.symm
  cases h.box.symm.trans b).trans h.box)
theorem SpX.keepT (h:SpX rr xb base W v0 v1 LS RT)(V:E)(d:∀ j,j<W.heap.size->Q j≠v1.ownBlock->V.heap[j]?=W.heap[j]?):BxT v0 v1 xb V :=
 sY ((d xb h.lt fun e=>by
  obtain⟨cur,b⟩:=h.tgt.type _ e.symm
  cases h.box.symm.trans b).trans h.box)
theorem SpX.open (h:SpX rr xb base W v0 v1 LS RT):W.frozen? (J xb 0 Z)=false/\W.frozen? (J xb 1 Z)=false:=by have hb:=h.box;refine⟨?_,?_⟩<;>simp[World.frozen?,hb]
theorem SpX.below (h:SpX rr xb base W v0 v1 LS RT){B:Nat}(hb:Below B W W')(b:W.heap.size<=B):SpX rr xb base W' v0 v1 LS RT:=by have hl:=h.lt;have:=h.lo;have:=h.hi;exact⟨(hb.block rr (by omega)).trans h.res,(hb.block xb (by omega)).trans h.box,h.lo,h.hi,own_below h.src hb b,h.tgt.below hb b⟩
theorem SpX.only (h:SpX rr xb base W v0 v1 LS RT)(b:Only R W W')(hR:R<rr):SpX rr xb base W' v0 v1 LS RT:=by have hl:=h.lt;have h1:=h.lo;have h2:=h.hi;exact⟨(b.block rr (by omega) (by omega)).trans h.res,(b.block xb (by omega) (by omega)).trans h.box,h1,h2,gy h.src b (by omega),h.tgt.only b (by omega)⟩
theorem SpX.addT {x:Target}{g c:Nat}{b:QB}(h:SpX rr xb base W v0 v1 LS RT)(n:∀ r∈RT,r.2.1≠g)(l:W.ownsRow base 188 3 (Y (Q (J g 0 Z)) x.actN c) x.actN (cB x.act x.actN))
  (i:W'.ownsRow base 108 2 b (RT.length+1) (RT.flatMap aV++aV (x,g,c))) (d:W.grownBy W' v1.ownBlock):SpX rr xb base (W'.setCell (J xb 1 Z) b) v0 b LS (RT++[(x,g,c)])/\Below base W (W'.setCell (J xb 1 Z) b):=by
 have hlt:=h.lt;have h1:=h.lo;have h2:=h.hi;have hb:base<=g:=(l.lt g rfl).1;have o:Below base W W':=(eI base W).grown d (by omega) fun k m=>(h.tgt.own.lt k m).1;have j:Below base W (W'.setCell (J xb 1 Z) b):=o.setCell (p:=(J xb 1 Z)) h2 b;have f:W'.heap[xb]?=Q (T #[v0,v1] 26 (0,0)):=gS d h.tgt.type h.box (by decide);refine⟨⟨(j.block rr h1).trans h.res,ee f b,h1,h2,?_,?_⟩,j⟩
 ·refine eW (h.src.kept d ?_) f (by decide) b
  cases hv:v0.ownBlock with
  | none=>exact .inl rfl
  | some k=>exact .inr fun e=>ey (dQ h.src k hv) (h.tgt.type k e.symm) (by decide) rfl
 ·exact jK (h.tgt.more2 n hb l i d) f (by decide) (by decide) b
theorem SpX.addS {x:Source}{b:QB}(h:SpX rr xb base W v0 v1 LS RT)(g:W'.ownsRow base 104 2 b (LS.length+1) (LS.flatMap bC++bC x))(f:W.grownBy W' v0.ownBlock):SpX rr xb base (W'.setCell (J xb 0 Z) b) b v1 (LS++[x]) RT/\Below base W (W'.setCell (J xb 0 Z) b):=by
 have hlt:=h.lt;have h1:=h.lo;have h2:=h.hi;have n:Below base W W':=(eI base W).grown f (by omega) fun k d=>(h.src.lt k d).1;have l:Below base W (W'.setCell (J xb 0 Z) b):=n.setCell (p:=(J xb 0 Z)) h2 b;have i:W'.heap[xb]?=Q (T #[v0,v1] 26 (0,0)):=gS f (dQ h.src) h.box (by decide);refine⟨⟨(l.block rr h1).trans h.res,ee i b,h1,h2,?_,?_⟩,l⟩
 ·have m:=eW g i (by decide) (j:=0) b
  rw[cM,IB];simpa using m
 ·exact jK (oH h.tgt f fun k d=>dQ h.src k d) i (by decide) (by decide) b
theorem TRow.mono {base base':Nat}(h:TRow W base v1 RT)(hb:base'<=base):TRow W base' v1 RT :=
 ⟨aI h.own hb,fun r d=>by obtain⟨h1,h2,b,h4⟩:=h.act r d;exact⟨h1,h2,b,by omega⟩,h.up⟩
theorem pw {base':Nat}(d:W.heap[rr]?=Q (T #[Y Z 0 0,Y Z 0 0] 26 (0,0)))(b:rr<base)(hb:base<=base')(hz:base<=W.heap.size)(f:W.ownsRow base' 104 2 v0 LS.length (LS.flatMap bC))(g:TRow W base' v1 RT):SpX rr W.heap.size base (W.alloc (T #[v0,v1] 26)) v0 v1 LS RT:=by have A:=(Qs W).alloc lr (T #[v0,v1] 26);exact⟨(A.block rr (aC d)).trans d,eL W _,b,hz,own_below (aI f hb) A lr,(g.mono hb).below A lr⟩
theorem SpX.fin {a0 a1:Option Addr}{n0 c0 n1 c1:Nat}(h:SpX rr xb base W (Y a0 n0 c0) (Y a1 n1 c1) LS RT)(f:n0=LS.length)(g:n1=RT.length)(b:LS.length<=300)(h1:RT.length<=300)(d:GX RT)(u v:QB):HSp base ((W.setCell (J rr 0 Z) u).setCell (J rr 1 Z) v) a0 n0 (aP LS) a1 n1 (bo (RT.map (·.1))) :=
 fo (aG (aG h.src h.lo u) h.lo v) f ((h.tgt.set h.lo u).set h.lo v) g b h1 d
theorem SpX.addNil {nm:ByteArray}{a0 a1:Option Addr}{c0 c1:Nat}(h:SpX rr xb base W (Y a0 LS.length c0) v1 LS RT)(o:W'.ownsRow base 108 2 (Y a1 (RT.length+1) c1) (RT.length+1) (RT.flatMap aV++[U nm,Y Z 0 0]))(d:W.grownBy W' v1.ownBlock)(M:LS.length<=300)(h1:RT.length<=299)(QO:GX RT):HSp base (W'.setCell (J xb 1 Z) (Y a1 (RT.length+1) c1)) a0 LS.length (aP LS) a1 (RT.length+1) (bo (RT.map (·.1)++[⟨nm,0,fun _=>⟨0,⟨#[]⟩,0⟩⟩]))/\(W'.setCell (J xb 1 Z) (Y a1 (RT.length+1) c1)).heap[xb]?=Q (T #[Y a0 LS.length c0,Y a1 (RT.length+1) c1] 26 (0,0))/\(W'.setCell (J xb 1 Z) (Y a1 (RT.length+1) c1)).heap[rr]?=Q (T #[Y Z 0 0,Y Z 0 0] 26 (0,0))/\Below base W (W'.setCell (J xb 1 Z) (Y a1 (RT.length+1) c1)):=by
 have hlt:=h.lt;have QQ:=h.lo;have K:=h.hi;have QN:Below base W W':=(eI base W).grown d (by omega) fun k G=>(h.tgt.own.lt k G).1;have z:Below base W (W'.setCell (J xb 1 Z) (Y a1 (RT.length+1) c1)):=QN.setCell (p:=(J xb 1 Z)) K _;have f:W'.heap[xb]?=Q (T #[Y a0 LS.length c0,v1] 26 (0,0)):=gS d h.tgt.type h.box (by decide);have m:(W'.setCell (J xb 1 Z) (Y a1 (RT.length+1) c1)).ownsRow base 104 2 (Y a0 LS.length c0) LS.length (LS.flatMap bC):=by
  refine eW (h.src.kept d ?_) f (by decide) _;cases hv:(Value.slice a0 LS.length c0).ownBlock with
  | none=>exact .inl rfl
  | some k=>exact .inr fun e=>ey (dQ h.src k hv) (h.tgt.type k e.symm) (by decide) rfl
 have x:=eW o f (by decide) (j:=1) (Y a1 (RT.length+1) c1);refine⟨⟨fun V g=>⟨jO (iN m g),?_⟩,M,by omega,fun i hi=>?_⟩,ee f _,(z.block rr QQ).trans h.res,z⟩
 ·have q:RT.length+1=(RT.map upO++[((⟨nm,0,fun _=>⟨0,⟨#[]⟩,0⟩⟩,Z,0):TO)]).length:=by simp
  have s:=iN x g;rw[nH,show(RT.map upO).flatMap toV++[U nm,Y Z 0 0]=(RT.map upO++[((⟨nm,0,fun _=>⟨0,⟨#[]⟩,0⟩⟩,Z,0):TO)]).flatMap toV by rw[IB];rfl,q] at s;have L:=sX s ?_
  ·rw[q]
   have H:(RT.map upO++[((⟨nm,0,fun _=>⟨0,⟨#[]⟩,0⟩⟩,Z,0):TO)]).map (·.1)=RT.map (·.1)++[⟨nm,0,fun _=>⟨0,⟨#[]⟩,0⟩⟩]:=by rw[E2,List.map_map];rfl
   rw[<-H];exact L
  ·intro r b
   rcases kP.1 b with b | b
   ·obtain⟨y,QP,rfl⟩:=IC.1 b
    obtain⟨t,_,A,B⟩:=h.tgt.act y QP;have z1:=d.block y.2.1 t.1 (fun e=>ey A (h.tgt.type _ e.symm) (by decide) rfl);have z2:=t.block d.size z1;have z3:RowIns (W'.setCell (J xb 1 Z) (Y a1 (RT.length+1) c1)) y.2.1 0 y.1.actN y.1.act:=by refine z2.block (by simp) (qh W' (J xb 1 Z) _ y.2.1 ?_);intro n;have n:y.2.1=xb:=n;obtain⟨cur,u⟩:=A.block z1;rw[n] at u;have:=f.symm.trans u;cases this
    exact(z3.block g.1 (g.2 y.2.1 B z3.1)).sl
   ·rw[j3.1 b]
    exact .inl rfl
 ·by_cases l:i<RT.length
  ·have e:bo (RT.map (·.1)++[⟨nm,0,fun _=>⟨0,⟨#[]⟩,0⟩⟩]) i=RT[i].1:=by simp[bo,List.getElem?_append,l]
   rw[e];exact QO _ (gz l)
  ·have e:bo (RT.map (·.1)++[⟨nm,0,fun _=>⟨0,⟨#[]⟩,0⟩⟩]) i=⟨nm,0,fun _=>⟨0,⟨#[]⟩,0⟩⟩:=by
    obtain rfl:i=RT.length:=by omega
    simp[bo]
   rw[e];exact⟨by show 0<=300;omega,fun j C=>absurd C (CS _)⟩
theorem SpX.setS {b c0 j:Nat}{LS':List Source}(h:SpX rr xb base W (Y (Q (J b 0 Z)) LS.length c0) v1 LS RT)(u:QB)(i:LS'.length=LS.length)(k:(LS.flatMap bC).set j u=LS'.flatMap bC):SpX rr xb base (W.setCell (J b j Z) u) (Y (Q (J b 0 Z)) LS.length c0) v1 LS' RT/\Below base W (W.setCell (J b j Z) u):=by
 have hb:=(h.src.lt b rfl).1;obtain⟨cur,g⟩:=dQ h.src b rfl;have far:∀ (X:Nat) d,W.heap[X]?=Q (T d 26 (0,0))->(W.setCell (J b j Z) u).heap[X]?=Q (T d 26 (0,0)):=by intro X d f;refine(qh W (J b j Z) u X ?_).trans f;intro e;have e:X=b:=e;subst e;have:=f.symm.trans g;cases this
 refine⟨⟨far _ _ h.res,far _ _ h.box,h.lo,h.hi,?_,jK h.tgt g (by decide) (by decide) u⟩,(eI base W).setCell (p:=(J b j Z)) hb u⟩;have h2:=mo h.src (j:=j) u;rw[k] at h2;rw[i];exact h2
theorem ve {a0 a1:Option Addr}{n0 c0 n1 c1:Nat}{L:List TO}(h:W.ownsRow base 104 2 (Y a0 n0 c0) LS.length (LS.flatMap bC))(k:n0=LS.length)(f:W.ownsRow base 108 2 (Y a1 n1 c1) n1 (L.flatMap toV))(o:n1=L.length)(p:LS.length<=300)(h1:L.length<=300)
  (m:∀ r∈L,∃ g,r.2.1=Q (J g 0 Z)/\base<=g/\RowIns W g 0 r.1.actN r.1.act) (l:∀ r∈L,r.1.actN<=300/\∀ j,j<r.1.actN->(r.1.act j).s.size<=5000):HSp base W a0 n0 (aP LS) a1 n1 (bo (L.map (·.1))):=by
 subst k o;refine⟨fun V b=>⟨jO (iN h b),sX (iN f b) fun r n=>?_⟩,p,h1,fun i hi=>?_⟩
 ·obtain⟨g,e,hb,d⟩:=m r n
  rw[e];exact(d.block b.1 (b.2 g hb d.1)).sl
 ·have e:bo (L.map (·.1)) i=L[i].1:=by simp[bo,hi]
  rw[e];exact l _ (gz hi)
theorem jt {b size n c:Nat}{e:QF}{a:Option Addr}{d:List QB}(h:W.ownsRow b e size (Y a n c) n d)(f:0<n):∃ g,a=Q (J g 0 Z):=by obtain⟨g,c',e⟩:=dS h f;simp at e;exact⟨g,e.1⟩
end
end Go.Proofs.YtkdimgejdocbbaaGreatDoor.Vp
