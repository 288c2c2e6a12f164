import Derived.Test.YtamacmnikdejeaaGreatDoorYY
import Derived.Test.YtamacmnikdejeaaGreatDoorYH
open Go.Addr renaming mk->T
open Go.Value renaming slice->Y,string->U,int->I
open Option renaming none->Z,some->N
open Go.Obj renaming cells->Q
open Go.IntKind renaming i64->J
open Go renaming World->H,Value->QS
namespace Go.Proofs.YtamacmnikdejeaaGreatDoor.Vp
open RowKit
theorem ug (L:List I3):i3L L=cF (dA L) L.length:=by
 have e:(List.range L.length).map (dA L)=L.map fun x=>(⟨x.1,⟨x.2.1.toArray⟩,x.2.2⟩:Ins):=by
  refine PL (by simp) fun i h1 h2=>?_;have hi:i<L.length:=by simpa using h2
  simp[dA,hi]
 rw[cF,e,NS];rfl
structure PrG (base:Nat)(W:H)(RT:List TR)(b g c n:Nat)(f:Nat->Ins):Prop where
 blk:PB W b (Y (N (T g 0 Z)) n c)
 own:W.ownsRow base 146 3 (Y (N (T g 0 Z)) n c) n (cF f n)
 new:∀ r∈RT,r.2.1≠g
 lo:base<=b
 num:1<=n/\n<=200
 sz:∀ j,j<n->(f j).s.size<=5000
section
variable {W W':H}{base R b g c n:Nat}{f:Nat->Ins}{RT:List TR}
theorem PrG.below (h:PrG base W RT b g c n f){B:Nat}(hb:Below B W W')(i:W.heap.size<=B):PrG base W' RT b g c n f :=
 ⟨h.blk.below hb (lj h.blk.lt i),own_below h.own hb i,h.new,h.lo,h.num,h.sz⟩
theorem PrG.only (h:PrG base W RT b g c n f)(i:Only R W W')(hR:R<base):PrG base W' RT b g c n f :=
 ⟨(i.block b h.blk.lt (by have:=h.lo;omega)).trans h.blk,gw h.own i hR,h.new,h.lo,h.num,h.sz⟩
theorem TRow.ltg {w:H}{base:Nat}{v:QS}{R:List TR}(h:TRow w base v R):∀ r∈R,r.2.1<w.heap.size:=fun r b=>(h.act r b).1.1
theorem TRow.atk {w:H}{base c k:Nat}{a:Option Addr}{R:List TR}(h:TRow w base (Y a R.length c) R)(l:k<R.length):∃ (b:Nat) (r:TR),a=N (T b 0 Z)/\b<w.heap.size/\r∈R/\w.cell? (T b (k*2) Z)=N (U r.1.name)/\w.cell? (T b (k*2+1) Z)=N (Y (N (T r.2.1 0 Z)) r.1.actN r.2.2)/\SlIns w (N (T r.2.1 0 Z)) r.1.actN r.1.act:=by
 obtain⟨g,c',e⟩:=eA h.own (by omega);simp at e;obtain⟨rfl,rfl⟩:=e;obtain⟨r,f,i⟩:=vZ l;refine⟨g,r,rfl,(dq h.own).2,i,?_,?_,(h.act r i).1.sl⟩
 ·exact(bB h.own (j:=k*2) (u:=U r.1.name) (by have:=cW bc 2 (fun _=>rfl) R k 0 (by omega) _ f;simpa[bc] using this)).1
 ·exact(bB h.own (j:=k*2+1) (u:=Y (N (T r.2.1 0 Z)) r.1.actN r.2.2) (by have:=cW bc 2 (fun _=>rfl) R k 1 (by omega) _ f;simpa[bc] using this)).1
theorem jL {L:List I3}(c:∀ i∈L,i.2.1.length<=5000):∀ j,j<L.length->(dA L j).s.size<=5000:=by
 intro j b;have e:dA L j=⟨L[j].1,⟨L[j].2.1.toArray⟩,L[j].2.2⟩:=by simp[dA,b]
 rw[e];show L[j].2.1.toArray.size<=5000;simpa using c _ (gj b)
theorem Af {L:List I3}{lo:Nat}(f:IR W lo g c L)(h:base<=lo)(b:∀ r∈RT,r.2.1<lo)(m:base<=W.heap.size)(h1:1<=L.length/\L.length<=200)(j:∀ i∈L,i.2.1.length<=5000):PrG base (W.alloc (Q #[Y (N (T g 0 Z)) L.length c] 43)) RT W.heap.size g c L.length (dA L):=by
 have hg:=f.lt;refine⟨cM W _,?_,fun r l e=>by have:=b r l;omega,m,h1,jL j⟩;have h2:W.ownsRow base 146 3 (Y (N (T g 0 Z)) L.length c) L.length (cF (dA L) L.length):=by rw[<-ug];exact aE f h
 exact own_below h2 ((q9 W).alloc ly _) ly
theorem PrG.put {l c2 i:Nat}{o:Nat->Ins}{lo:Nat}(h:PrG base W RT b g c n f)(q:W.ownsRow lo 146 3 (Y (N (T l 0 Z)) i c2) i (cF o i))(t:base<=lo)(p:∀ r∈RT,r.2.1<lo)(h1:1<=i/\i<=200)(B:∀ j,j<i->(o j).s.size<=5000):PrG base (W.setCell (T b 0 Z) (Y (N (T l 0 Z)) i c2)) RT b l c2 i o:=by
 have x:=(World.ownsRow.lt q l rfl).1;refine⟨h.blk.set _,?_,fun r D e=>by have:=p r D;omega,h.lo,h1,B⟩;have u:b≠l:=by intro e;subst e;obtain⟨m,x⟩:=jz q;have:=h.blk.symm.trans x;cases this
 refine aE ?_ t;rcases q with ⟨z,h2 | ⟨E,cap,m,y,hb,A,C⟩⟩
 ·exact⟨z,.inl h2⟩
 ·refine⟨z,.inr ⟨E,cap,m,y,hb,?_,C⟩⟩
  cases y
  exact(qh W (T b 0 Z) _ l (fun e=>u e.symm)).trans A
theorem SpB.putP {rb:Nat}{v0 v1:QS}{LS:List Source}{v:QS}(h:SpB rb W v0 v1 LS RT)(z:PB W b v)(hb:rb+2<=b)(u:QS):SpB rb (W.setCell (T b 0 Z) u) v0 v1 LS RT:=by
 have far:∀ k,k≠b->(W.setCell (T b 0 Z) u).heap[k]?=W.heap[k]?:=fun k o=>qh W (T b 0 Z) u k (by simpa using o);have i:W.heap.size<=(W.setCell (T b 0 Z) u).heap.size:=by simp[World.setCell]
 have j:∀ k e,TypeAt W k e->e≠43->k≠b:=by
  intro k e ⟨f,o⟩ m p;subst p;have:=z.symm.trans o;cases this
  exact m rfl
 have c:∀ {e:TypeId} {size n:Nat} {x:QS} {s:List QS},W.ownsRow (rb+2) e size x n s->e≠43->(W.setCell (T b 0 Z) u).ownsRow (rb+2) e size x n s:=by
  intro e size n x s A m;rcases A with ⟨t,h2 | ⟨q,cap,f,p,y,l,g⟩⟩
  ·exact⟨t,.inl h2⟩
  ·exact⟨t,.inr ⟨q,cap,f,p,y,(far q (j q e ⟨f,l⟩ m)).trans l,g⟩⟩
 refine⟨(far rb (by omega)).trans h.res,(far (rb+1) (by omega)).trans h.box,c h.src (by decide),c h.tgt.own (by decide),fun r B=>?_,h.tgt.up⟩;obtain⟨h1,⟨F,h2⟩,g,C⟩:=h.tgt.act r B;have e:=far r.2.1 (j r.2.1 146 g (by decide));exact⟨h1.block i e,⟨F,h2.block i e⟩,g.block e,C⟩
def F7 (nm tx:ByteArray)(z:Int)(i:Nat):Ins:=([⟨1,nm,0⟩,⟨12,⟨#[]⟩,0⟩,⟨1,tx,0⟩,⟨2,⟨#[]⟩,0⟩,⟨3,⟨#[]⟩,z⟩,⟨15,⟨#[]⟩,0⟩]:List Ins).getD i ⟨0,⟨#[]⟩,0⟩
theorem Ag {nm tx:ByteArray}{z:Int}(h1:nm.size<=5000)(h2:tx.size<=5000):∀ j,j<6->(F7 nm tx z j).s.size<=5000:=by
 have b:(⟨#[]⟩:ByteArray).size<=5000:=AI _;intro j c;match j,c with
 | 0,_=>exact h1
 | 1,_=>exact b
 | 2,_=>exact h2
 | 3,_=>exact b
 | 4,_=>exact b
 | 5,_=>exact b
 | k+6,h=>exact absurd h (by omega)
abbrev qE (nm tx:ByteArray)(z:Int):Array QS:=#[I J 1,U nm,I J 0,I J 12,U ⟨#[]⟩,I J 0,I J 1,U tx,I J 0,I J 2,U ⟨#[]⟩,I J 0,I J 3,U ⟨#[]⟩,I J z,I J 15,U ⟨#[]⟩,I J 0]
theorem PrG.six (h:PrG base W RT b g c n f)(i:∀ r∈RT,r.2.1<W.heap.size)(m:base<=W.heap.size)(nm tx:ByteArray)(z:Int)(h1:nm.size<=5000)(h2:tx.size<=5000):PrG base ((W.setCell (T b 0 Z) (Y (N (T W.heap.size 0 Z)) 6 6)).alloc (Q (qE nm tx z) 146)) RT b W.heap.size 6 6 (F7 nm tx z):=by
 have hz:(W.setCell (T b 0 Z) (Y (N (T W.heap.size 0 Z)) 6 6)).heap.size=W.heap.size:=by simp
 have A:=(eL W.heap.size (W.setCell (T b 0 Z) (Y (N (T W.heap.size 0 Z)) 6 6))).alloc (by rw[hz];exact j5 _) (Q (qE nm tx z) 146);refine⟨(h.blk.set _).below A h.blk.lt,?_,fun r l e=>by have:=i r l;omega,h.lo,⟨by omega,by omega⟩,Ag h1 h2⟩;have j:=cM (W.setCell (T b 0 Z) (Y (N (T W.heap.size 0 Z)) 6 6)) (Q (qE nm tx z) 146);rw[hz] at j;exact⟨rfl,.inr ⟨W.heap.size,6,qE nm tx z,rfl,m,j,j5 _,by unfold maxLen;omega,rfl,rfl⟩⟩
end
theorem dP {w:H}{base size n X j:Nat}{e t:TypeId}{v:QS}{i:List QS}{q:Array QS}{fz:Nat × Nat}(h:w.ownsRow base e size v n i)(hX:w.heap[X]?=N (Q q t fz))(l:t≠e)(u:QS):(w.setCell (T X j Z) u).ownsRow base e size v n i:=by
 rcases h with ⟨f,h2 | ⟨g,cap,c,p,hb,b,m⟩⟩
 ·exact⟨f,.inl h2⟩
 ·refine⟨f,.inr ⟨g,cap,c,p,hb,(qh w (T X j Z) u g ?_).trans b,m⟩⟩
  intro o;obtain rfl:g=X:=o;have:=hX.symm.trans b;cases this
  exact l rfl
theorem kJ {w:H}{base X j:Nat}{t:TypeId}{v:QS}{R:List TR}{m:Array QS}{fz:Nat × Nat}(h:TRow w base v R)(hX:w.heap[X]?=N (Q m t fz))(c:t≠125)(hi:t≠146)(u:QS):TRow (w.setCell (T X j Z) u) base v R:=by
 refine⟨dP h.own hX c u,fun r i=>?_,h.up⟩;obtain⟨h1,⟨F,h2⟩,b,l⟩:=h.act r i
 have e:(w.setCell (T X j Z) u).heap[r.2.1]?=w.heap[r.2.1]?:=qh w (T X j Z) u r.2.1 (by
  intro g;obtain rfl:r.2.1=X:=g;obtain⟨cur,f⟩:=b;have:=hX.symm.trans f;cases this
  exact hi rfl)
 exact⟨h1.block (by simp) e,⟨F,h2.block (by simp) e⟩,b.block e,l⟩
theorem iJ {w b:H}{X:Nat}{v:QS}{e t:TypeId}{c:Array QS}{fz:Nat × Nat}(g:w.grownBy b v.ownBlock)(f:∀ k,v.ownBlock=N k->TypeAt w k e)(hX:w.heap[X]?=N (Q c t fz))(h:t≠e):b.heap[X]?=N (Q c t fz):=by
 refine(g.block X (ai hX) fun j=>?_).trans hX;obtain⟨cur,i⟩:=f X j.symm;have:=hX.symm.trans i;cases this
 exact h rfl
def GX (RT:List TR):Prop:=∀ r∈RT,r.1.actN<=300/\∀ j,j<r.1.actN->(r.1.act j).s.size<=5000
theorem GX.add {RT:List TR}(h:GX RT){r:TR}(h1:r.1.actN<=300)(h2:∀ j,j<r.1.actN->(r.1.act j).s.size<=5000):GX (RT++[r]):=by
 intro y b;rcases hU.1 b with b | b
 ·exact h y b
 ·rw[eT.1 b];exact⟨h1,h2⟩
theorem wH {f:Nat->Target}{t:ByteArray}{n:Nat}{R:List TR}(hM:R.map (·.1)=keepT f t n)(c:∀ i,i<n->(f i).actN<=300/\∀ j,j<(f i).actN->((f i).act j).s.size<=5000):GX R:=by
 intro r b;have h1:r.1∈keepT f t n:=by rw[<-hM];exact MC b
 have h2:=(MN.1 h1).1;obtain⟨i,hi,e⟩:=JQ.1 h2;rw[<-e];exact c i (H7.1 hi)
theorem E7 {f:Nat->Target}{t:ByteArray}{n:Nat}{R:List TR}(hM:R.map (·.1)=keepT f t n)(c:∀ i,i<n->1<=(f i).actN/\(f i).actN<=200):∀ r∈R,1<=r.1.actN/\r.1.actN<=200:=by
 intro r b;have h1:r.1∈keepT f t n:=by rw[<-hM];exact MC b
 have h2:=(MN.1 h1).1;obtain⟨i,hi,e⟩:=JQ.1 h2;rw[<-e];exact c i (H7.1 hi)
theorem pT {f:Nat->Target}{t:ByteArray}{n:Nat}{R:List TR}(hM:R.map (·.1)=keepT f t n):R.length<=n:=by
 have h1:R.length=(keepT f t n).length:=by rw[<-hM,KO]
 have:=MK (fun x:Target=>!(x.name.toList == t.toList)) ((List.range n).map f);rw[h1];simpa[keepT] using this
def lsI (L:List Ins)(i:Nat):Ins:=L.getD i ⟨0,⟨#[]⟩,0⟩
theorem uh {L:List Ins}(h:∀ x∈L,x.s.size<=5000):∀ j,j<L.length->(lsI L j).s.size<=5000:=by
 intro j b;have e:lsI L j=L[j]:=by simp[lsI,b]
 rw[e];exact h _ (gj b)
theorem lV {w:H}{z:Nat}(hz:w.heap.size=z)(x y:QS)(t:TypeId):∀ j u,[x,y][j]?=N u->(w.alloc (Q #[x,y] t)).cell? (((T z 0 Z):Addr).add j)=N u:=by subst hz;exact df w x y t
def gZ:List Ins:=[⟨1,⟨#[107]⟩,0⟩,⟨15,⟨#[]⟩,0⟩]
def iR (b:ByteArray):List Ins:=[⟨1,b,0⟩,⟨12,⟨#[]⟩,0⟩,⟨15,⟨#[]⟩,0⟩]
theorem qF (w:H){base:Nat}(hb:base<=w.heap.size):(w.alloc (Q #[I J 1,U ⟨#[107]⟩,I J 0,I J 15,U ⟨#[]⟩,I J 0] 146)).ownsRow base 146 3 (Y (N (T w.heap.size 0 Z)) 2 2) 2 (cF (lsI gZ) 2) :=
 ⟨rfl,.inr ⟨w.heap.size,2,_,rfl,hb,cM w _,j5 _,by unfold maxLen;omega,rfl,rfl⟩⟩
theorem Ah (w:H)(b:ByteArray){base:Nat}(hb:base<=w.heap.size):(w.alloc (Q #[I J 1,U b,I J 0,I J 12,U ⟨#[]⟩,I J 0,I J 15,U ⟨#[]⟩,I J 0] 146)).ownsRow base 146 3 (Y (N (T w.heap.size 0 Z)) 3 3) 3 (cF (lsI (iR b)) 3) :=
 ⟨rfl,.inr ⟨w.heap.size,3,_,rfl,hb,cM w _,j5 _,by unfold maxLen;omega,rfl,rfl⟩⟩
theorem oP:∀ j,j<2->(lsI gZ j).s.size<=5000:=uh (L:=gZ) (by decide)
theorem yv {b:ByteArray}(h:b.size<=5000):∀ j,j<3->(lsI (iR b) j).s.size<=5000:=uh (L:=iR b) fun x c=>by
 simp only[iR,nD,nj,MA] at c;rcases c with rfl | rfl | rfl
 ·exact h
 ·exact AI _
 ·exact AI _
theorem gK {w:H}{base size n g c j:Nat}{e:TypeId}{f:List QS}(h:w.ownsRow base e size (Y (N (T g 0 Z)) n c) n f)(u:QS):(w.setCell (T g j Z) u).ownsRow base e size (Y (N (T g 0 Z)) n c) n (f.set j u):=by
 rcases h with ⟨r,⟨h2,_⟩ | ⟨g',cap,b,q,hb,m,i,o,l,p⟩⟩
 ·cases h2
 ·cases q
  refine⟨by rw[JO];exact r,.inr ⟨g,c,b.setIfInBounds j u,rfl,hb,bM m u,i,o,by rw[Array.size_setIfInBounds];exact l,?_⟩⟩;rw[<-p,MJ,QO]
theorem CU {w:H}{base b j:Nat}{RT:List TR}(h:∀ r∈RT,RowIns w r.2.1 0 r.1.actN r.1.act/\(∃ F,Cells w r.2.1 0 (r.1.actN*3) F)/\TypeAt w r.2.1 146/\base<=r.2.1)(g:TypeAt w b 125)(u:QS):∀ r∈RT,RowIns (w.setCell (T b j Z) u) r.2.1 0 r.1.actN r.1.act/\(∃ F,Cells (w.setCell (T b j Z) u) r.2.1 0 (r.1.actN*3) F)/\TypeAt (w.setCell (T b j Z) u) r.2.1 146/\base<=r.2.1:=by
 intro r i;obtain⟨h1,⟨F,h2⟩,f,l⟩:=h r i
 have e:(w.setCell (T b j Z) u).heap[r.2.1]?=w.heap[r.2.1]?:=qh w (T b j Z) u r.2.1 (by
  intro c;have c:r.2.1=b:=c
  exact eW f (c ▸ g) (by decide) rfl)
 exact⟨h1.block (by simp) e,⟨F,h2.block (by simp) e⟩,f.block e,l⟩
theorem dL {base X j:Nat}{w:H}(hX:X<base)(u:QS):Agr base w (w.setCell (T X j Z) u) :=
 ⟨by simp,fun k h1 _=>qh w (T X j Z) u k (by intro e;have e:k=X:=e;omega)⟩
abbrev TO:=Target × Option Addr × Nat
def toV (r:TO):List QS:=[U r.1.name,Y r.2.1 r.1.actN r.2.2]
def upO (r:TR):TO:=(r.1,N (T r.2.1 0 Z),r.2.2)
theorem oQ (RT:List TR):RT.flatMap bc=(RT.map upO).flatMap toV:=by rw[NS];rfl
theorem ui {w:H}{base c:Nat}{a:Option Addr}{L:List TO}(h:w.ownsRow base 125 2 (Y a L.length c) L.length (L.flatMap toV))(f:∀ r∈L,SlIns w r.2.1 r.1.actN r.1.act):SlTarget w a L.length (aT (L.map (·.1))):=by
 by_cases hn:L.length=0
 ·exact .inl hn
 ·obtain⟨g,c',e⟩:=eA h (by omega)
  simp at e;obtain⟨rfl,rfl⟩:=e;refine .inr ⟨g,0,rfl,(dq h).2,fun i hi=>?_⟩;have b:L[i]?=N L[i]:=gq hi;have l:aT (L.map (·.1)) i=L[i].1:=by simp[aT,hi]
  rw[l];refine⟨?_,L[i].2.1,L[i].2.2,?_,f _ (gj hi)⟩
  ·have:=(bB h (j:=i*2) (u:=U L[i].1.name) (by have:=cW toV 2 (fun _=>rfl) L i 0 (by omega) _ b;simpa[toV] using this)).1
   rwa[show 0+i*2=i*2 by omega]
  ·have:=(bB h (j:=i*2+1) (u:=Y L[i].2.1 L[i].1.actN L[i].2.2) (by have:=cW toV 2 (fun _=>rfl) L i 1 (by omega) _ b;simpa[toV] using this)).1
   rwa[show 0+i*2+1=i*2+1 by omega]
structure SpX (rr xb base:Nat)(W:H)(v0 v1:QS)(LS:List Source)(RT:List TR):Prop where
 res:W.heap[rr]?=N (Q #[Y Z 0 0,Y Z 0 0] 29 (0,0))
 box:W.heap[xb]?=N (Q #[v0,v1] 29 (0,0))
 lo:rr<base
 hi:base<=xb
 src:W.ownsRow base 121 2 v0 LS.length (LS.flatMap bG)
 tgt:TRow W base v1 RT
section
variable {W W':H}{R rr xb base:Nat}{v0 v1:QS}{LS:List Source}{RT:List TR}
theorem SpX.lt (h:SpX rr xb base W v0 v1 LS RT):xb<W.heap.size:=ai h.box
theorem SpX.cells (h:SpX rr xb base W v0 v1 LS RT):W.cell? (T xb 0 Z)=N v0/\W.cell? (T xb 1 Z)=N v1:=by have hb:=h.box;refine⟨?_,?_⟩<;>simp[World.cell?,hb]
def BxS (v0 v1:QS)(xb:Nat)(V:H):Prop:=V.heap[xb]?=N (Q #[v0,v1] 29 (0,0))/\V.cell? (T xb 0 Z)=N v0
def BxT (v0 v1:QS)(xb:Nat)(V:H):Prop:=V.heap[xb]?=N (Q #[v0,v1] 29 (0,0))/\V.cell? (T xb 1 Z)=N v1
theorem iS (h:W.heap[xb]?=N (Q #[v0,v1] 29 (0,0))):BxS v0 v1 xb W:=⟨h,by simp[World.cell?,h]⟩
theorem uj (h:W.heap[xb]?=N (Q #[v0,v1] 29 (0,0))):BxT v0 v1 xb W:=⟨h,by simp[World.cell?,h]⟩
theorem SpX.keepS (h:SpX rr xb base W v0 v1 LS RT)(V:H)(c:∀ j,j<W.heap.size->N j≠v0.ownBlock->V.heap[j]?=W.heap[j]?):BxS v0 v1 xb V :=
 iS ((c xb h.lt fun e=>by
  obtain⟨cur,b⟩:=er h.src _ e.symm
  cases h.box.symm.trans b).trans h.box)
theorem SpX.keepT (h:SpX rr xb base W v0 v1 LS RT)(V:H)(c:∀ j,j<W.heap.size->N j≠v1.ownBlock->V.heap[j]?=W.heap[j]?):BxT v0 v1 xb V :=
 uj ((c xb h.lt fun e=>by
  obtain⟨cur,b⟩:=h.tgt.type _ e.symm
  cases h.box.symm.trans b).trans h.box)
theorem SpX.open (h:SpX rr xb base W v0 v1 LS RT):W.frozen? (T xb 0 Z)=false/\W.frozen? (T xb 1 Z)=false:=by have hb:=h.box;refine⟨?_,?_⟩<;>simp[World.frozen?,hb]
theorem SpX.below (h:SpX rr xb base W v0 v1 LS RT){B:Nat}(hb:Below B W W')(b:W.heap.size<=B):SpX rr xb base W' v0 v1 LS RT:=by have hl:=h.lt;have:=h.lo;have:=h.hi;exact⟨(hb.block rr (by omega)).trans h.res,(hb.block xb (by omega)).trans h.box,h.lo,h.hi,own_below h.src hb b,h.tgt.below hb b⟩
theorem SpX.only (h:SpX rr xb base W v0 v1 LS RT)(b:Only R W W')(hR:R<rr):SpX rr xb base W' v0 v1 LS RT:=by have hl:=h.lt;have h1:=h.lo;have h2:=h.hi;exact⟨(b.block rr (by omega) (by omega)).trans h.res,(b.block xb (by omega) (by omega)).trans h.box,h1,h2,gw h.src b (by omega),h.tgt.only b (by omega)⟩
theorem SpX.addT {x:Target}{g c:Nat}{b:QS}(h:SpX rr xb base W v0 v1 LS RT)(n:∀ r∈RT,r.2.1≠g)(m:W.ownsRow base 146 3 (Y (N (T g 0 Z)) x.actN c) x.actN (cF x.act x.actN))
  (j:W'.ownsRow base 125 2 b (RT.length+1) (RT.flatMap bc++bc (x,g,c))) (f:W.grownBy W' v1.ownBlock):SpX rr xb base (W'.setCell (T xb 1 Z) b) v0 b LS (RT++[(x,g,c)])/\Below base W (W'.setCell (T xb 1 Z) b):=by
 have hlt:=h.lt;have h1:=h.lo;have h2:=h.hi;have hb:base<=g:=(m.lt g rfl).1;have o:Below base W W':=(eL base W).grown f (by omega) fun k q=>(h.tgt.own.lt k q).1;have l:Below base W (W'.setCell (T xb 1 Z) b):=o.setCell (p:=(T xb 1 Z)) h2 b;have i:W'.heap[xb]?=N (Q #[v0,v1] 29 (0,0)):=iJ f h.tgt.type h.box (by decide);refine⟨⟨(l.block rr h1).trans h.res,bM i b,h1,h2,?_,?_⟩,l⟩
 ·refine dP (h.src.kept f ?_) i (by decide) b
  cases hv:v0.ownBlock with
  | none=>exact .inl rfl
  | some k=>exact .inr fun e=>eW (er h.src k hv) (h.tgt.type k e.symm) (by decide) rfl
 ·exact kJ (h.tgt.more2 n hb m j f) i (by decide) (by decide) b
theorem SpX.addS {x:Source}{b:QS}(h:SpX rr xb base W v0 v1 LS RT)(i:W'.ownsRow base 121 2 b (LS.length+1) (LS.flatMap bG++bG x))(c:W.grownBy W' v0.ownBlock):SpX rr xb base (W'.setCell (T xb 0 Z) b) b v1 (LS++[x]) RT/\Below base W (W'.setCell (T xb 0 Z) b):=by
 have hlt:=h.lt;have h1:=h.lo;have h2:=h.hi;have m:Below base W W':=(eL base W).grown c (by omega) fun k f=>(h.src.lt k f).1;have l:Below base W (W'.setCell (T xb 0 Z) b):=m.setCell (p:=(T xb 0 Z)) h2 b;have g:W'.heap[xb]?=N (Q #[v0,v1] 29 (0,0)):=iJ c (er h.src) h.box (by decide);refine⟨⟨(l.block rr h1).trans h.res,bM g b,h1,h2,?_,?_⟩,l⟩
 ·have n:=dP i g (by decide) (j:=0) b
  rw[a8,HH];simpa using n
 ·exact kJ (pM h.tgt c fun k f=>er h.src k f) g (by decide) (by decide) b
theorem TRow.mono {base base':Nat}(h:TRow W base v1 RT)(hb:base'<=base):TRow W base' v1 RT :=
 ⟨aE h.own hb,fun r b=>by obtain⟨h1,h2,c,h4⟩:=h.act r b;exact⟨h1,h2,c,by omega⟩,h.up⟩
theorem qG {base':Nat}(b:W.heap[rr]?=N (Q #[Y Z 0 0,Y Z 0 0] 29 (0,0)))(c:rr<base)(hb:base<=base')(hz:base<=W.heap.size)(f:W.ownsRow base' 121 2 v0 LS.length (LS.flatMap bG))(g:TRow W base' v1 RT):SpX rr W.heap.size base (W.alloc (Q #[v0,v1] 29)) v0 v1 LS RT:=by have A:=(q9 W).alloc ly (Q #[v0,v1] 29);exact⟨(A.block rr (ai b)).trans b,cM W _,c,hz,own_below (aE f hb) A ly,(g.mono hb).below A ly⟩
theorem SpX.fin {a0 a1:Option Addr}{n0 c0 n1 c1:Nat}(h:SpX rr xb base W (Y a0 n0 c0) (Y a1 n1 c1) LS RT)(g:n0=LS.length)(f:n1=RT.length)(c:LS.length<=300)(h1:RT.length<=300)(b:GX RT)(u v:QS):HSp base ((W.setCell (T rr 0 Z) u).setCell (T rr 1 Z) v) a0 n0 (aR LS) a1 n1 (aT (RT.map (·.1))) :=
 fv (aS (aS h.src h.lo u) h.lo v) g ((h.tgt.set h.lo u).set h.lo v) f c h1 b
theorem SpX.addNil {nm:ByteArray}{a0 a1:Option Addr}{c0 c1:Nat}(h:SpX rr xb base W (Y a0 LS.length c0) v1 LS RT)(m:W'.ownsRow base 125 2 (Y a1 (RT.length+1) c1) (RT.length+1) (RT.flatMap bc++[U nm,Y Z 0 0]))(c:W.grownBy W' v1.ownBlock)(F:LS.length<=300)(h1:RT.length<=299)(D:GX RT):HSp base (W'.setCell (T xb 1 Z) (Y a1 (RT.length+1) c1)) a0 LS.length (aR LS) a1 (RT.length+1) (aT (RT.map (·.1)++[⟨nm,0,fun _=>⟨0,⟨#[]⟩,0⟩⟩]))/\(W'.setCell (T xb 1 Z) (Y a1 (RT.length+1) c1)).heap[xb]?=N (Q #[Y a0 LS.length c0,Y a1 (RT.length+1) c1] 29 (0,0))/\(W'.setCell (T xb 1 Z) (Y a1 (RT.length+1) c1)).heap[rr]?=N (Q #[Y Z 0 0,Y Z 0 0] 29 (0,0))/\Below base W (W'.setCell (T xb 1 Z) (Y a1 (RT.length+1) c1)):=by
 have hlt:=h.lt;have ZB:=h.lo;have Q9:=h.hi;have ZA:Below base W W':=(eL base W).grown c (by omega) fun k E=>(h.tgt.own.lt k E).1;have q:Below base W (W'.setCell (T xb 1 Z) (Y a1 (RT.length+1) c1)):=ZA.setCell (p:=(T xb 1 Z)) Q9 _;have g:W'.heap[xb]?=N (Q #[Y a0 LS.length c0,v1] 29 (0,0)):=iJ c h.tgt.type h.box (by decide);have o:(W'.setCell (T xb 1 Z) (Y a1 (RT.length+1) c1)).ownsRow base 121 2 (Y a0 LS.length c0) LS.length (LS.flatMap bG):=by
  refine dP (h.src.kept c ?_) g (by decide) _;cases hv:(Value.slice a0 LS.length c0).ownBlock with
  | none=>exact .inl rfl
  | some k=>exact .inr fun e=>eW (er h.src k hv) (h.tgt.type k e.symm) (by decide) rfl
 have A:=dP m g (by decide) (j:=1) (Y a1 (RT.length+1) c1);refine⟨⟨fun V f=>⟨nG (eZ o f),?_⟩,F,by omega,fun i hi=>?_⟩,bM g _,(q.block rr ZB).trans h.res,q⟩
 ·have u:RT.length+1=(RT.map upO++[((⟨nm,0,fun _=>⟨0,⟨#[]⟩,0⟩⟩,Z,0):TO)]).length:=by simp
  have z:=eZ A f;rw[oQ,show(RT.map upO).flatMap toV++[U nm,Y Z 0 0]=(RT.map upO++[((⟨nm,0,fun _=>⟨0,⟨#[]⟩,0⟩⟩,Z,0):TO)]).flatMap toV by rw[HH];rfl,u] at z;have B:=ui z ?_
  ·rw[u]
   have C:(RT.map upO++[((⟨nm,0,fun _=>⟨0,⟨#[]⟩,0⟩⟩,Z,0):TO)]).map (·.1)=RT.map (·.1)++[⟨nm,0,fun _=>⟨0,⟨#[]⟩,0⟩⟩]:=by rw[CV,List.map_map];rfl
   rw[<-C];exact B
  ·intro r b
   rcases hU.1 b with b | b
   ·obtain⟨y,G,rfl⟩:=JQ.1 b
    obtain⟨x,_,t,K⟩:=h.tgt.act y G;have z1:=c.block y.2.1 x.1 (fun e=>eW t (h.tgt.type _ e.symm) (by decide) rfl);have z2:=x.block c.size z1;have z3:RowIns (W'.setCell (T xb 1 Z) (Y a1 (RT.length+1) c1)) y.2.1 0 y.1.actN y.1.act:=by refine z2.block (by simp) (qh W' (T xb 1 Z) _ y.2.1 ?_);intro n;have n:y.2.1=xb:=n;obtain⟨cur,s⟩:=t.block z1;rw[n] at s;have:=g.symm.trans s;cases this
    exact(z3.block f.1 (f.2 y.2.1 K z3.1)).sl
   ·rw[eT.1 b]
    exact .inl rfl
 ·by_cases l:i<RT.length
  ·have e:aT (RT.map (·.1)++[⟨nm,0,fun _=>⟨0,⟨#[]⟩,0⟩⟩]) i=RT[i].1:=by simp[aT,List.getElem?_append,l]
   rw[e];exact D _ (gj l)
  ·have e:aT (RT.map (·.1)++[⟨nm,0,fun _=>⟨0,⟨#[]⟩,0⟩⟩]) i=⟨nm,0,fun _=>⟨0,⟨#[]⟩,0⟩⟩:=by
    obtain rfl:i=RT.length:=by omega
    simp[aT]
   rw[e];exact⟨by show 0<=300;omega,fun j L=>absurd L (JP _)⟩
theorem SpX.setS {b c0 j:Nat}{LS':List Source}(h:SpX rr xb base W (Y (N (T b 0 Z)) LS.length c0) v1 LS RT)(u:QS)(i:LS'.length=LS.length)(g:(LS.flatMap bG).set j u=LS'.flatMap bG):SpX rr xb base (W.setCell (T b j Z) u) (Y (N (T b 0 Z)) LS.length c0) v1 LS' RT/\Below base W (W.setCell (T b j Z) u):=by
 have hb:=(h.src.lt b rfl).1;obtain⟨cur,f⟩:=er h.src b rfl;have far:∀ (X:Nat) c,W.heap[X]?=N (Q c 29 (0,0))->(W.setCell (T b j Z) u).heap[X]?=N (Q c 29 (0,0)):=by intro X c hX;refine(qh W (T b j Z) u X ?_).trans hX;intro e;have e:X=b:=e;subst e;have:=hX.symm.trans f;cases this
 refine⟨⟨far _ _ h.res,far _ _ h.box,h.lo,h.hi,?_,kJ h.tgt f (by decide) (by decide) u⟩,(eL base W).setCell (p:=(T b j Z)) hb u⟩;have h2:=gK h.src (j:=j) u;rw[g] at h2;rw[i];exact h2
theorem wI {a0 a1:Option Addr}{n0 c0 n1 c1:Nat}{L:List TO}(f:W.ownsRow base 121 2 (Y a0 n0 c0) LS.length (LS.flatMap bG))(m:n0=LS.length)(l:W.ownsRow base 125 2 (Y a1 n1 c1) n1 (L.flatMap toV))(p:n1=L.length)(o:LS.length<=300)(h1:L.length<=300)
  (h:∀ r∈L,∃ g,r.2.1=N (T g 0 Z)/\base<=g/\RowIns W g 0 r.1.actN r.1.act) (q:∀ r∈L,r.1.actN<=300/\∀ j,j<r.1.actN->(r.1.act j).s.size<=5000):HSp base W a0 n0 (aR LS) a1 n1 (aT (L.map (·.1))):=by
 subst m p;refine⟨fun V b=>⟨nG (eZ f b),ui (eZ l b) fun r n=>?_⟩,o,h1,fun i hi=>?_⟩
 ·obtain⟨g,e,hb,c⟩:=h r n
  rw[e];exact(c.block b.1 (b.2 g hb c.1)).sl
 ·have e:aT (L.map (·.1)) i=L[i].1:=by simp[aT,hi]
  rw[e];exact q _ (gj hi)
theorem ke {b size n c:Nat}{e:TypeId}{a:Option Addr}{f:List QS}(h:W.ownsRow b e size (Y a n c) n f)(hn:0<n):∃ g,a=N (T g 0 Z):=by obtain⟨g,c',e⟩:=eA h hn;simp at e;exact⟨g,e.1⟩
end
end Go.Proofs.YtamacmnikdejeaaGreatDoor.Vp
