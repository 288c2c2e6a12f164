import Derived.Test.YtkophfgkcijjkaaGreatDoorYS
import Derived.Test.YtkophfgkcijjkaaGreatDoorYB
set_option maxRecDepth 100000
set_option maxHeartbeats 4000000
namespace Go.Proofs.YtkophfgkcijjkaaGreatDoor.Vp
open RowKit
theorem pU (L:List I3):i3L L=bI (cE L) L.length:=by
 have e:(List.range L.length).map (cE L)=L.map fun x=>(⟨x.1,⟨x.2.1.toArray⟩,x.2.2⟩:Ins):=by
  refine List.ext_getElem (by simp) fun i h1 b=>?_;have hi:i<L.length:=by simpa using b
  simp[cE,hi]
 rw[bI,e,List.flatMap_map];rfl
structure PrG (base:Nat)(W:World)(RT:List TR)(b g c n:Nat)(f:Nat->Ins):Prop where
 blk:PB W b (.slice (some ⟨g,0,none⟩) n c)
 own:W.ownsRow base 176 3 (.slice (some ⟨g,0,none⟩) n c) n (bI f n)
 new:∀ r∈RT,r.2.1≠g
 lo:base<=b
 num:1<=n/\n<=200
 sz:∀ j,j<n->(f j).s.size<=5000
section
variable {W W':World}{base R b g c n:Nat}{f:Nat->Ins}{RT:List TR}
theorem PrG.below (h:PrG base W RT b g c n f){B:Nat}(hb:Below B W W')(d:W.heap.size<=B):PrG base W' RT b g c n f :=
 ⟨h.blk.below hb (lj h.blk.lt d),own_below h.own hb d,h.new,h.lo,h.num,h.sz⟩
theorem PrG.only (h:PrG base W RT b g c n f)(d:Only R W W')(hR:R<base):PrG base W' RT b g c n f :=
 ⟨(d.block b h.blk.lt (by have:=h.lo;omega)).trans h.blk,fh h.own d hR,h.new,h.lo,h.num,h.sz⟩
theorem PrG.ne (h:PrG base W RT b g c n f):b≠g:=by intro e;subst e;obtain⟨cur,d⟩:=ei h.own;have:=h.blk.symm.trans d;cases this
theorem TRow.ltg {w:World}{base:Nat}{v:Value}{R:List TR}(h:TRow w base v R):∀ r∈R,r.2.1<w.heap.size:=fun r b=>(h.act r b).1.1
theorem TRow.atk {w:World}{base c k:Nat}{a:Option Addr}{R:List TR}(h:TRow w base (.slice a R.length c) R)(f:k<R.length):∃ (gt:Nat) (r:TR),a=some ⟨gt,0,none⟩/\gt<w.heap.size/\r∈R/\w.cell? ⟨gt,k*2,none⟩=some (.string r.1.name)/\w.cell? ⟨gt,k*2+1,none⟩=some (.slice (some ⟨r.2.1,0,none⟩) r.1.actN r.2.2)/\SlIns w (some ⟨r.2.1,0,none⟩) r.1.actN r.1.act:=by
 obtain⟨g,c',e⟩:=dA h.own (by omega);simp at e;obtain⟨rfl,rfl⟩:=e;obtain⟨r,b,d⟩:=ki f;refine⟨g,r,rfl,(cu h.own).2,d,?_,?_,(h.act r d).1.sl⟩
 ·exact(bA h.own (j:=k*2) (u:=.string r.1.name) (by have:=bZ aU 2 (fun _=>rfl) R k 0 (by omega) _ b;simpa[aU] using this)).1
 ·exact(bA h.own (j:=k*2+1) (u:=.slice (some ⟨r.2.1,0,none⟩) r.1.actN r.2.2) (by have:=bZ aU 2 (fun _=>rfl) R k 1 (by omega) _ b;simpa[aU] using this)).1
theorem jq {L:List I3}(c:∀ i∈L,i.2.1.length<=5000):∀ j,j<L.length->(cE L j).s.size<=5000:=by
 intro j b;have e:cE L j=⟨L[j].1,⟨L[j].2.1.toArray⟩,L[j].2.2⟩:=by simp[cE,b]
 rw[e];show L[j].2.1.toArray.size<=5000;simpa using c _ (gz b)
theorem uJ {L:List I3}{lo:Nat}(f:IR W lo g c L)(d:base<=lo)(b:∀ r∈RT,r.2.1<lo)(l:base<=W.heap.size)(j:1<=L.length/\L.length<=200)(h:∀ i∈L,i.2.1.length<=5000):PrG base (W.alloc (.cells #[.slice (some ⟨g,0,none⟩) L.length c] 31)) RT W.heap.size g c L.length (cE L):=by
 have hg:=f.lt;refine⟨heap_alloc_new W _,?_,fun r k e=>by have:=b r k;omega,l,j,jq h⟩;have m:W.ownsRow base 176 3 (.slice (some ⟨g,0,none⟩) L.length c) L.length (bI (cE L) L.length):=by rw[<-pU];exact aB f d
 exact own_below m ((q9 W).alloc ly _) ly
theorem PrG.put {i c2 d:Nat}{o:Nat->Ins}{lo:Nat}(h:PrG base W RT b g c n f)(l:W.ownsRow lo 176 3 (.slice (some ⟨i,0,none⟩) d c2) d (bI o d))(u:base<=lo)(m:∀ r∈RT,r.2.1<lo)(E:1<=d/\d<=200)(D:∀ j,j<d->(o j).s.size<=5000):PrG base (W.setCell ⟨b,0,none⟩ (.slice (some ⟨i,0,none⟩) d c2)) RT b i c2 d o:=by
 have q:=(World.ownsRow.lt l i rfl).1;refine⟨h.blk.set _,?_,fun r A e=>by have:=m r A;omega,h.lo,E,D⟩;have t:b≠i:=by intro e;subst e;obtain⟨k,q⟩:=ei l;have:=h.blk.symm.trans q;cases this
 refine aB ?_ u;rcases l with ⟨p,B | ⟨C,cap,k,y,hb,x,z⟩⟩
 ·exact⟨p,.inl B⟩
 ·refine⟨p,.inr ⟨C,cap,k,y,hb,?_,z⟩⟩
  cases y
  exact(qh W ⟨b,0,none⟩ _ i (fun e=>t e.symm)).trans x
theorem SpB.putP {c:Nat}{v0 v1:Value}{LS:List Source}{v:Value}(h:SpB c W v0 v1 LS RT)(B:PB W b v)(hb:c+2<=b)(u:Value):SpB c (W.setCell ⟨b,0,none⟩ u) v0 v1 LS RT:=by
 have far:∀ k,k≠b->(W.setCell ⟨b,0,none⟩ u).heap[k]?=W.heap[k]?:=fun k s=>qh W ⟨b,0,none⟩ u k (by simpa using s);have i:W.heap.size<=(W.setCell ⟨b,0,none⟩ u).heap.size:=by simp[World.setCell]
 have j:∀ k e,TypeAt W k e->e≠31->k≠b:=by
  intro k e ⟨f,s⟩ m p;subst p;have:=B.symm.trans s;cases this
  exact m rfl
 have d:∀ {e:TypeId} {size n:Nat} {x:Value} {xs:List Value},W.ownsRow (c+2) e size x n xs->e≠31->(W.setCell ⟨b,0,none⟩ u).ownsRow (c+2) e size x n xs:=by
  intro e size n x xs z m;rcases z with ⟨t,o | ⟨q,cap,f,p,y,l,g⟩⟩
  ·exact⟨t,.inl o⟩
  ·exact⟨t,.inr ⟨q,cap,f,p,y,(far q (j q e ⟨f,l⟩ m)).trans l,g⟩⟩
 refine⟨(far c (by omega)).trans h.res,(far (c+1) (by omega)).trans h.box,d h.src (by decide),d h.tgt.own (by decide),fun r A=>?_,h.tgt.up⟩;obtain⟨D,⟨F,o⟩,g,C⟩:=h.tgt.act r A;have e:=far r.2.1 (j r.2.1 176 g (by decide));exact⟨D.block i e,⟨F,o.block i e⟩,g.block e,C⟩
def yR (nm tx:ByteArray)(z:Int)(i:Nat):Ins:=([⟨1,nm,0⟩,⟨12,⟨#[]⟩,0⟩,⟨1,tx,0⟩,⟨2,⟨#[]⟩,0⟩,⟨3,⟨#[]⟩,z⟩,⟨15,⟨#[]⟩,0⟩]:List Ins).getD i ⟨0,⟨#[]⟩,0⟩
theorem uK {nm tx:ByteArray}{z:Int}(d:nm.size<=5000)(f:tx.size<=5000):∀ j,j<6->(yR nm tx z j).s.size<=5000:=by
 have b:(⟨#[]⟩:ByteArray).size<=5000:=Nat.zero_le _;intro j c;match j,c with
 | 0,_=>exact d
 | 1,_=>exact b
 | 2,_=>exact f
 | 3,_=>exact b
 | 4,_=>exact b
 | 5,_=>exact b
 | k+6,h=>exact absurd h (by omega)
abbrev mT (nm tx:ByteArray)(z:Int):Array Value:=#[.int .i64 1,.string nm,.int .i64 0,.int .i64 12,.string ⟨#[]⟩,.int .i64 0,.int .i64 1,.string tx,.int .i64 0,.int .i64 2,.string ⟨#[]⟩,.int .i64 0,.int .i64 3,.string ⟨#[]⟩,.int .i64 z,.int .i64 15,.string ⟨#[]⟩,.int .i64 0]
theorem PrG.six (h:PrG base W RT b g c n f)(i:∀ r∈RT,r.2.1<W.heap.size)(l:base<=W.heap.size)(nm tx:ByteArray)(z:Int)(j:nm.size<=5000)(m:tx.size<=5000):PrG base ((W.setCell ⟨b,0,none⟩ (.slice (some ⟨W.heap.size,0,none⟩) 6 6)).alloc (.cells (mT nm tx z) 176)) RT b W.heap.size 6 6 (yR nm tx z):=by
 have hz:(W.setCell ⟨b,0,none⟩ (.slice (some ⟨W.heap.size,0,none⟩) 6 6)).heap.size=W.heap.size:=by simp
 have A:=(Below.refl W.heap.size (W.setCell ⟨b,0,none⟩ (.slice (some ⟨W.heap.size,0,none⟩) 6 6))).alloc (by rw[hz];exact Nat.le_refl _) (.cells (mT nm tx z) 176);refine⟨(h.blk.set _).below A h.blk.lt,?_,fun r k e=>by have:=i r k;omega,h.lo,⟨by omega,by omega⟩,uK j m⟩;have d:=heap_alloc_new (W.setCell ⟨b,0,none⟩ (.slice (some ⟨W.heap.size,0,none⟩) 6 6)) (.cells (mT nm tx z) 176);rw[hz] at d;exact⟨rfl,.inr ⟨W.heap.size,6,mT nm tx z,rfl,l,d,Nat.le_refl _,by unfold maxLen;omega,rfl,rfl⟩⟩
end
theorem ek {w:World}{base size n X j:Nat}{e t:TypeId}{v:Value}{xs:List Value}{m:Array Value}{fz:Nat × Nat}(h:w.ownsRow base e size v n xs)(hX:w.heap[X]?=some (.cells m t fz))(i:t≠e)(u:Value):(w.setCell ⟨X,j,none⟩ u).ownsRow base e size v n xs:=by
 rcases h with ⟨b,k | ⟨g,cap,d,l,hb,c,f⟩⟩
 ·exact⟨b,.inl k⟩
 ·refine⟨b,.inr ⟨g,cap,d,l,hb,(qh w ⟨X,j,none⟩ u g ?_).trans c,f⟩⟩
  intro o;obtain rfl:g=X:=o;have:=hX.symm.trans c;cases this
  exact i rfl
theorem kK {w:World}{base X j:Nat}{t:TypeId}{v:Value}{R:List TR}{i:Array Value}{fz:Nat × Nat}(h:TRow w base v R)(hX:w.heap[X]?=some (.cells i t fz))(f:t≠104)(hi:t≠176)(u:Value):TRow (w.setCell ⟨X,j,none⟩ u) base v R:=by
 refine⟨ek h.own hX f u,fun r d=>?_,h.up⟩;obtain⟨m,⟨F,g⟩,b,k⟩:=h.act r d
 have e:(w.setCell ⟨X,j,none⟩ u).heap[r.2.1]?=w.heap[r.2.1]?:=qh w ⟨X,j,none⟩ u r.2.1 (by
  intro l;obtain rfl:r.2.1=X:=l;obtain⟨cur,c⟩:=b;have:=hX.symm.trans c;cases this
  exact hi rfl)
 exact⟨m.block (by simp) e,⟨F,g.block (by simp) e⟩,b.block e,k⟩
theorem iK {w c:World}{X:Nat}{v:Value}{e t:TypeId}{b:Array Value}{fz:Nat × Nat}(g:w.grownBy c v.ownBlock)(f:∀ k,v.ownBlock=some k->TypeAt w k e)(hX:w.heap[X]?=some (.cells b t fz))(i:t≠e):c.heap[X]?=some (.cells b t fz):=by
 refine(g.block X (au hX) fun d=>?_).trans hX;obtain⟨cur,h⟩:=f X d.symm;have:=hX.symm.trans h;cases this
 exact i rfl
def GX (RT:List TR):Prop:=∀ r∈RT,r.1.actN<=300/\∀ j,j<r.1.actN->(r.1.act j).s.size<=5000
theorem GX.add {RT:List TR}(h:GX RT){r:TR}(c:r.1.actN<=300)(d:∀ j,j<r.1.actN->(r.1.act j).s.size<=5000):GX (RT++[r]):=by
 intro y b;rcases List.mem_append.1 b with b | b
 ·exact h y b
 ·rw[List.mem_singleton.1 b];exact⟨c,d⟩
def lsI (L:List Ins)(i:Nat):Ins:=L.getD i ⟨0,⟨#[]⟩,0⟩
theorem wP {L:List Ins}(h:∀ x∈L,x.s.size<=5000):∀ j,j<L.length->(lsI L j).s.size<=5000:=by
 intro j b;have e:lsI L j=L[j]:=by simp[lsI,b]
 rw[e];exact h _ (gz b)
theorem pV {w:World}{z:Nat}(hz:w.heap.size=z)(x y:Value)(t:TypeId):∀ j u,[x,y][j]?=some u->(w.alloc (.cells #[x,y] t)).cell? ((⟨z,0,none⟩:Addr).add j)=some u:=by subst hz;exact da w x y t
def ew (b:ByteArray):List Ins:=[⟨1,b,0⟩,⟨12,⟨#[]⟩,0⟩,⟨15,⟨#[]⟩,0⟩]
theorem nV (w:World)(b:ByteArray){base:Nat}(hb:base<=w.heap.size):(w.alloc (.cells #[.int .i64 1,.string b,.int .i64 0,.int .i64 12,.string ⟨#[]⟩,.int .i64 0,.int .i64 15,.string ⟨#[]⟩,.int .i64 0] 176)).ownsRow base 176 3 (.slice (some ⟨w.heap.size,0,none⟩) 3 3) 3 (bI (lsI (ew b)) 3) :=
 ⟨rfl,.inr ⟨w.heap.size,3,_,rfl,hb,heap_alloc_new w _,Nat.le_refl _,by unfold maxLen;omega,rfl,rfl⟩⟩
theorem mr {b:ByteArray}(h:b.size<=5000):∀ j,j<3->(lsI (ew b) j).s.size<=5000:=wP (L:=ew b) fun x c=>by
 simp only[ew,List.mem_cons,nj,or_false] at c;rcases c with rfl | rfl | rfl
 ·exact h
 ·exact Nat.zero_le _
 ·exact Nat.zero_le _
theorem ix {w:World}{base size n g c j:Nat}{e:TypeId}{xs:List Value}(h:w.ownsRow base e size (.slice (some ⟨g,0,none⟩) n c) n xs)(u:Value):(w.setCell ⟨g,j,none⟩ u).ownsRow base e size (.slice (some ⟨g,0,none⟩) n c) n (xs.set j u):=by
 rcases h with ⟨d,⟨k,_⟩ | ⟨g',cap,b,l,hb,i,f,m,o,p⟩⟩
 ·cases k
 ·cases l
  refine⟨by rw[List.length_set];exact d,.inr ⟨g,c,b.setIfInBounds j u,rfl,hb,bG i u,f,m,by rw[Array.size_setIfInBounds];exact o,?_⟩⟩;rw[<-p,Array.toList_setIfInBounds,List.take_set]
theorem wQ {w:World}{base gt j:Nat}{RT:List TR}(h:∀ r∈RT,RowIns w r.2.1 0 r.1.actN r.1.act/\(∃ F,Cells w r.2.1 0 (r.1.actN*3) F)/\TypeAt w r.2.1 176/\base<=r.2.1)(f:TypeAt w gt 104)(u:Value):∀ r∈RT,RowIns (w.setCell ⟨gt,j,none⟩ u) r.2.1 0 r.1.actN r.1.act/\(∃ F,Cells (w.setCell ⟨gt,j,none⟩ u) r.2.1 0 (r.1.actN*3) F)/\TypeAt (w.setCell ⟨gt,j,none⟩ u) r.2.1 176/\base<=r.2.1:=by
 intro r d;obtain⟨k,⟨F,g⟩,c,i⟩:=h r d
 have e:(w.setCell ⟨gt,j,none⟩ u).heap[r.2.1]?=w.heap[r.2.1]?:=qh w ⟨gt,j,none⟩ u r.2.1 (by
  intro b;have b:r.2.1=gt:=b
  exact dU c (b ▸ f) (by decide) rfl)
 exact⟨k.block (by simp) e,⟨F,g.block (by simp) e⟩,c.block e,i⟩
theorem yn {base X j:Nat}{w:World}(hX:X<base)(u:Value):Agr base w (w.setCell ⟨X,j,none⟩ u) :=
 ⟨by simp,fun k h1 _=>qh w ⟨X,j,none⟩ u k (by intro e;have e:k=X:=e;omega)⟩
abbrev TO:=Target × Option Addr × Nat
def toV (r:TO):List Value:=[.string r.1.name,.slice r.2.1 r.1.actN r.2.2]
def upO (r:TR):TO:=(r.1,some ⟨r.2.1,0,none⟩,r.2.2)
theorem wR {w:World}{base c:Nat}{a:Option Addr}{L:List TO}(h:w.ownsRow base 104 2 (.slice a L.length c) L.length (L.flatMap toV))(f:∀ r∈L,SlIns w r.2.1 r.1.actN r.1.act):SlTarget w a L.length (ba (L.map (·.1))):=by
 by_cases hn:L.length=0
 ·exact .inl hn
 ·obtain⟨g,c',e⟩:=dA h (by omega)
  simp at e;obtain⟨rfl,rfl⟩:=e;refine .inr ⟨g,0,rfl,(cu h).2,fun i hi=>?_⟩;have b:L[i]?=some L[i]:=gq hi;have d:ba (L.map (·.1)) i=L[i].1:=by simp[ba,hi]
  rw[d];refine⟨?_,L[i].2.1,L[i].2.2,?_,f _ (gz hi)⟩
  ·have:=(bA h (j:=i*2) (u:=.string L[i].1.name) (by have:=bZ toV 2 (fun _=>rfl) L i 0 (by omega) _ b;simpa[toV] using this)).1
   rwa[show 0+i*2=i*2 by omega]
  ·have:=(bA h (j:=i*2+1) (u:=.slice L[i].2.1 L[i].1.actN L[i].2.2) (by have:=bZ toV 2 (fun _=>rfl) L i 1 (by omega) _ b;simpa[toV] using this)).1
   rwa[show 0+i*2+1=i*2+1 by omega]
structure SpX (rr xb base:Nat)(W:World)(v0 v1:Value)(LS:List Source)(RT:List TR):Prop where
 res:W.heap[rr]?=some (.cells #[.slice none 0 0,.slice none 0 0] 26 (0,0))
 box:W.heap[xb]?=some (.cells #[v0,v1] 26 (0,0))
 lo:rr<base
 hi:base<=xb
 src:W.ownsRow base 100 2 v0 LS.length (LS.flatMap be)
 tgt:TRow W base v1 RT
section
variable {W W':World}{R rr xb base:Nat}{v0 v1:Value}{LS:List Source}{RT:List TR}
theorem SpX.lt (h:SpX rr xb base W v0 v1 LS RT):xb<W.heap.size:=au h.box
theorem SpX.cells (h:SpX rr xb base W v0 v1 LS RT):W.cell? ⟨xb,0,none⟩=some v0/\W.cell? ⟨xb,1,none⟩=some v1:=by have hb:=h.box;refine⟨?_,?_⟩<;>simp[World.cell?,hb]
theorem SpX.open (h:SpX rr xb base W v0 v1 LS RT):W.frozen? ⟨xb,0,none⟩=false/\W.frozen? ⟨xb,1,none⟩=false:=by have hb:=h.box;refine⟨?_,?_⟩<;>simp[World.frozen?,hb]
theorem SpX.below (h:SpX rr xb base W v0 v1 LS RT){B:Nat}(hb:Below B W W')(b:W.heap.size<=B):SpX rr xb base W' v0 v1 LS RT:=by have hl:=h.lt;have:=h.lo;have:=h.hi;exact⟨(hb.block rr (by omega)).trans h.res,(hb.block xb (by omega)).trans h.box,h.lo,h.hi,own_below h.src hb b,h.tgt.below hb b⟩
theorem SpX.only (h:SpX rr xb base W v0 v1 LS RT)(b:Only R W W')(hR:R<rr):SpX rr xb base W' v0 v1 LS RT:=by have hl:=h.lt;have c:=h.lo;have d:=h.hi;exact⟨(b.block rr (by omega) (by omega)).trans h.res,(b.block xb (by omega) (by omega)).trans h.box,c,d,fh h.src b (by omega),h.tgt.only b (by omega)⟩
theorem SpX.addT {x:Target}{g c:Nat}{b:Value}(h:SpX rr xb base W v0 v1 LS RT)(o:∀ r∈RT,r.2.1≠g)(n:W.ownsRow base 176 3 (.slice (some ⟨g,0,none⟩) x.actN c) x.actN (bI x.act x.actN))
  (i:W'.ownsRow base 104 2 b (RT.length+1) (RT.flatMap aU++aU (x,g,c))) (d:W.grownBy W' v1.ownBlock):SpX rr xb base (W'.setCell ⟨xb,1,none⟩ b) v0 b LS (RT++[(x,g,c)])/\Below base W (W'.setCell ⟨xb,1,none⟩ b):=by
 have hlt:=h.lt;have l:=h.lo;have m:=h.hi;have hb:base<=g:=(n.lt g rfl).1;have q:Below base W W':=(Below.refl base W).grown d (by omega) fun k s=>(h.tgt.own.lt k s).1;have j:Below base W (W'.setCell ⟨xb,1,none⟩ b):=q.setCell (p:=⟨xb,1,none⟩) m b;have f:W'.heap[xb]?=some (.cells #[v0,v1] 26 (0,0)):=iK d h.tgt.type h.box (by decide);refine⟨⟨(j.block rr l).trans h.res,bG f b,l,m,?_,?_⟩,j⟩
 ·refine ek (h.src.kept d ?_) f (by decide) b
  cases hv:v0.ownBlock with
  | none=>exact .inl rfl
  | some k=>exact .inr fun e=>dU (fs h.src k hv) (h.tgt.type k e.symm) (by decide) rfl
 ·exact kK (h.tgt.more2 o hb n i d) f (by decide) (by decide) b
theorem SpX.addS {x:Source}{b:Value}(h:SpX rr xb base W v0 v1 LS RT)(d:W'.ownsRow base 100 2 b (LS.length+1) (LS.flatMap be++be x))(f:W.grownBy W' v0.ownBlock):SpX rr xb base (W'.setCell ⟨xb,0,none⟩ b) b v1 (LS++[x]) RT/\Below base W (W'.setCell ⟨xb,0,none⟩ b):=by
 have hlt:=h.lt;have l:=h.lo;have m:=h.hi;have n:Below base W W':=(Below.refl base W).grown f (by omega) fun k g=>(h.src.lt k g).1;have i:Below base W (W'.setCell ⟨xb,0,none⟩ b):=n.setCell (p:=⟨xb,0,none⟩) m b;have c:W'.heap[xb]?=some (.cells #[v0,v1] 26 (0,0)):=iK f (fs h.src) h.box (by decide);refine⟨⟨(i.block rr l).trans h.res,bG c b,l,m,?_,?_⟩,i⟩
 ·have o:=ek d c (by decide) (j:=0) b
  rw[List.length_append,List.flatMap_append];simpa using o
 ·exact kK (mo h.tgt f fun k g=>fs h.src k g) c (by decide) (by decide) b
theorem TRow.mono {base base':Nat}(h:TRow W base v1 RT)(hb:base'<=base):TRow W base' v1 RT :=
 ⟨aB h.own hb,fun r d=>by obtain⟨c,f,b,h4⟩:=h.act r d;exact⟨c,f,b,by omega⟩,h.up⟩
theorem rX {base':Nat}(b:W.heap[rr]?=some (.cells #[.slice none 0 0,.slice none 0 0] 26 (0,0)))(c:rr<base)(hb:base<=base')(hz:base<=W.heap.size)(d:W.ownsRow base' 100 2 v0 LS.length (LS.flatMap be))(f:TRow W base' v1 RT):SpX rr W.heap.size base (W.alloc (.cells #[v0,v1] 26)) v0 v1 LS RT:=by have A:=(q9 W).alloc ly (.cells #[v0,v1] 26);exact⟨(A.block rr (au b)).trans b,heap_alloc_new W _,c,hz,own_below (aB d hb) A ly,(f.mono hb).below A ly⟩
theorem SpX.fin {a0 a1:Option Addr}{n0 c0 n1 c1:Nat}(h:SpX rr xb base W (.slice a0 n0 c0) (.slice a1 n1 c1) LS RT)(d:n0=LS.length)(b:n1=RT.length)(f:LS.length<=300)(g:RT.length<=300)(c:GX RT)(u v:Value):HSp base ((W.setCell ⟨rr,0,none⟩ u).setCell ⟨rr,1,none⟩ v) a0 n0 (aO LS) a1 n1 (ba (RT.map (·.1))) :=
 pQ (aD (aD h.src h.lo u) h.lo v) d ((h.tgt.set h.lo u).set h.lo v) b f g c
theorem yo {a0 a1:Option Addr}{n0 c0 n1 c1:Nat}{L:List TO}(h:W.ownsRow base 100 2 (.slice a0 n0 c0) LS.length (LS.flatMap be))(m:n0=LS.length)(l:W.ownsRow base 104 2 (.slice a1 n1 c1) n1 (L.flatMap toV))(d:n1=L.length)(n:LS.length<=300)(o:L.length<=300)
  (f:∀ r∈L,∃ g,r.2.1=some ⟨g,0,none⟩/\base<=g/\RowIns W g 0 r.1.actN r.1.act) (p:∀ r∈L,r.1.actN<=300/\∀ j,j<r.1.actN->(r.1.act j).s.size<=5000):HSp base W a0 n0 (aO LS) a1 n1 (ba (L.map (·.1))):=by
 subst m d;refine⟨fun V b=>⟨iL (eO h b),wR (eO l b) fun r k=>?_⟩,n,o,fun i hi=>?_⟩
 ·obtain⟨g,e,hb,c⟩:=f r k
  rw[e];exact(c.block b.1 (b.2 g hb c.1)).sl
 ·have e:ba (L.map (·.1)) i=L[i].1:=by simp[ba,hi]
  rw[e];exact p _ (gz hi)
end
def pW (f:Nat->Ins)(n:Nat):List I3:=(List.range n).map fun i=>((f i).op,(f i).s.data.toList,(f i).n)
theorem wT (f:Nat->Ins)(n:Nat):(pW f n).length=n:=by simp[pW]
theorem wU (f:Nat->Ins)(n:Nat):i3L (pW f n)=bI f n:=by rw[i3L,pW,bI,List.flatMap_map,List.flatMap_map];rfl
theorem rm (R p g c n:Nat)(f:Nat->Ins)(w:World)(hR:Rd w R p)(l:p<=20000)(d:RowIns w g 0 n f)(hn:1<=n/\n<=200)(k:∀ j,j<n->(f j).s.size<=5000):Calls Tryz.prog 131 #[.pointer (some ⟨R,0,none⟩),.agg #[.slice (some ⟨g,0,none⟩) n c]] w fun e m=>DP w R (p+1000) 0 201 e m:=by
 have b:=wT f n
 have h:=ox R p g c (pW f n) w hR l d.1 (by rw[wU];exact mJ d) (by omega) (by intro e;rw[e] at b;simp at b;omega) (by
  intro i hi;obtain⟨j,o,rfl⟩:=List.mem_map.1 hi;have:=k j (List.mem_range.1 o)
  simpa using this)
 rw[b] at h;exact h
theorem rY {w:World}{b:Nat}{s0 s1 f c d:ByteArray}{t:TypeId}{fz:Nat × Nat}(h:w.heap[b]?=some (.cells #[.string s0,.string s1,.string f,.string c,.string d] t fz))(k:Nat)(g:k<5):∃ s,w.cell? ⟨b,k,none⟩=some (.string s):=by
 match k,g with
 | 0,_=>exact⟨s0,by simp[World.cell?,h]⟩
 | 1,_=>exact⟨s1,by simp[World.cell?,h]⟩
 | 2,_=>exact⟨f,by simp[World.cell?,h]⟩
 | 3,_=>exact⟨c,by simp[World.cell?,h]⟩
 | 4,_=>exact⟨d,by simp[World.cell?,h]⟩
 | j+5,h5=>exact absurd h5 (by omega)
section
variable {W:World}{rr xb base:Nat}{LS:List Source}{RR:List TR}
end
structure Sw (rr xb base:Nat)(W:World)(v0:Value)(gt n1 c1:Nat)(LS:List Source)(RT:List TR)(xs:List Value):Prop where
 res:W.heap[rr]?=some (.cells #[.slice none 0 0,.slice none 0 0] 26 (0,0))
 box:W.heap[xb]?=some (.cells #[v0,.slice (some ⟨gt,0,none⟩) n1 c1] 26 (0,0))
 src:W.ownsRow base 100 2 v0 LS.length (LS.flatMap be)
 own:W.ownsRow base 104 2 (.slice (some ⟨gt,0,none⟩) n1 c1) n1 xs
 act:∀ r∈RT,RowIns W r.2.1 0 r.1.actN r.1.act/\(∃ F,Cells W r.2.1 0 (r.1.actN*3) F)/\TypeAt W r.2.1 176/\base<=r.2.1
section
variable {W W':World}{rr xb base gt n1 c1:Nat}{v0:Value}{LS:List Source}{RT:List TR}{xs:List Value}
theorem Sw.set (h:Sw rr xb base W v0 gt n1 c1 LS RT xs)(j:Nat)(u:Value):Sw rr xb base (W.setCell ⟨gt,j,none⟩ u) v0 gt n1 c1 LS RT (xs.set j u):=by
 have d:TypeAt W gt 104:=fs h.own gt rfl;obtain⟨f,c⟩:=d;have far:∀ (X:Nat) b,W.heap[X]?=some (.cells b 26 (0,0))->(W.setCell ⟨gt,j,none⟩ u).heap[X]?=some (.cells b 26 (0,0)):=by intro X b hX;refine(qh W ⟨gt,j,none⟩ _ X ?_).trans hX;intro e;have e:X=gt:=e;subst e;have:=hX.symm.trans c;cases this
 exact⟨far _ _ h.res,far _ _ h.box,ek h.src c (by decide) u,ix h.own u,wQ h.act ⟨f,c⟩ u⟩
theorem Sw.drew (h:Sw rr xb base W v0 gt n1 c1 LS RT xs):Sw rr xb base W.drew v0 gt n1 c1 LS RT xs :=
 ⟨h.res,h.box,own_below h.src br.drew ly,own_below h.own br.drew ly,fun r g=>by
  obtain⟨d,⟨F,b⟩,f,c⟩:=h.act r g
  exact⟨d.block ly rfl,⟨F,b.block ly rfl⟩,f.block rfl,c⟩⟩
theorem Sw.fin {a0:Option Addr}{n0 c0:Nat}(h:Sw rr xb base W (.slice a0 n0 c0) gt n1 c1 LS RT xs)(k:n0=LS.length){L:List TR}(d:xs=(L.map upO).flatMap toV)(f:n1=L.length)(l:LS.length<=300)(m:L.length<=300)(hL:∀ r∈L,r∈RT)(j:GX RT):HSp base W a0 n0 (aO LS) (some ⟨gt,0,none⟩) n1 (ba ((L.map upO).map (·.1))):=by
 subst d;refine yo (c1:=c1) h.src k h.own (by rw[f];simp) l (by simpa using m) (fun r b=>?_) (fun r b=>?_)
 ·obtain⟨y,c,rfl⟩:=List.mem_map.1 b
  obtain⟨i,_,q3,g⟩:=h.act y (hL y c);exact⟨y.2.1,rfl,g,i⟩
 ·obtain⟨y,c,rfl⟩:=List.mem_map.1 b
  exact j y (hL y c)
end
theorem uL (R p:Nat)(m:Int)(w:World)(hR:Rd w R p)(hp:(p:Int)<=100000)(hm:m<1):Calls Tryz.prog 51 #[.pointer (some ⟨R,0,none⟩),.int .i64 m] w fun e b=>e=.returned (.int .i64 0)/\Rd b R (p+1)/\Only R w b:=by have hst:=ae hR.step;have c:Hid (Only R w (w.setCell ⟨R,1,none⟩ (.int .i64 ((p:Int)+1)))):=fG (Only.refl R w) 1 _;obtain⟨a,n,cap,hl,hn,h0,⟨h1,h2⟩,d⟩:=hR;clear d;go_enter Tryz.func51,Tryz.ntmps51;go_wp2;go_ret;exact⟨rfl,hst.out,c.out⟩
theorem rp (R p g c:Nat)(w:World)(hR:Rd w R p)(hp:p<=20000):Calls Tryz.prog 131 #[.pointer (some ⟨R,0,none⟩),.agg #[.slice (some ⟨g,0,none⟩) 0 c]] w fun e B=>DP w R (p+1000) 0 201 e B:=by
 have m:=ae (nI hR (.slice (some ⟨g,0,none⟩) 0 c));obtain⟨C,hi,n,t,q⟩:=lc;clear hR;go_enter Tryz.func131,Tryz.ntmps131;go_wp2_with (at_builtin;refine wpList_append_own _ rfl (.tmp 7) (.tmp 9) 29 rfl (w.heap.size+2) 176 C (.agg #[.int .i64 0,.string ⟨#[]⟩,.int .i64 0]) 3 32 Tryz.underlying29 hi n t q rfl (by decide) (.slice (some ⟨w.heap.size+2,0,none⟩) 0 0) 0 [] (by simp[Act.eval]) m.out.ir ⟨g,0,none⟩ 0 c [] (by simp[Act.eval]) rfl (fun j u l=>by simp at l) (fun u l=>by simp at l) (by unfold maxLen;omega) (by omega) (by simp) ?_);intro y o b x d;replace b:o.ownsRow (w.heap.size+2) 176 3 y 0 []:=b
 obtain⟨k,c1,rfl⟩:∃ g c,y=.slice (some ⟨g,0,none⟩) 0 c:=(by
  rcases b.2 with ⟨rfl,_⟩ | ⟨g,c,cur,rfl,_⟩
  ·exact(d rfl).elim
  ·exact⟨g,c,rfl⟩)
 have r:IR o (w.heap.size+2) k c1 []:=b;have h:=ae (m.out.app0 (M:=[]) (n':=200) r x (by simp) (fun i hi=>by simp at hi));rw[List.nil_append] at h;clear r x m b d;go_wp2_with fail;refine(uL R _ 0 _ h.out.st.1 (by omega) (by omega)).mono ?_;rintro e W2 ⟨rfl,hR,z⟩;have s:=ae (h.out.only z hR);clear z hR h;have f:=s.out.st.2.2.1;have zl:=f.lt;have d0:=f.c0;have d1:=f.fz 0;have fin:=ae (s.out.fin (.slice (some ⟨k,0,none⟩) 0 c1));clear f;go_wp2;obtain⟨f1,E,f3,G,D,A⟩:=fin.out;try simp only[Exit.inBlock,Exit.then]
 refine bp (cy rfl _ _ (w.heap.size+1) _ rfl f1) rfl ?_;exact⟨[],k,c1,rfl,E,by omega,by simp,G,_,by omega,D,A⟩
end Go.Proofs.YtkophfgkcijjkaaGreatDoor.Vp
