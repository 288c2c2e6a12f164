import Derived.Test.YtamacmnikdejeaaGreatDoorYS
import Derived.Test.YtamacmnikdejeaaGreatDoorYG
open Go.Addr renaming mk->T
open Go.Value renaming slice->Y
open Option renaming none->Z,some->N
open Go.Obj renaming cells->Q
open Go renaming World->H,Value->QS
namespace Go.Proofs.YtamacmnikdejeaaGreatDoor.Vp
open RowKit
theorem TRow.only {w f:H}{b X:Nat}{v:QS}{R:List TR}(h:TRow w b v R)(c:Only X w f)(hX:X<b):TRow f b v R:=by refine⟨gw h.own c hX,fun r g=>?_,h.up⟩;obtain⟨h1,⟨F,h2⟩,j,i⟩:=h.act r g;have e:=c.block r.2.1 h1.1 (by omega);exact⟨h1.block c.size e,⟨F,h2.block c.size e⟩,j.block e,i⟩
theorem TRow.more2 {m s:H}{f g c:Nat}{v u:QS}{R:List TR}{x:Target}(h:TRow m f v R)(y:∀ r∈R,r.2.1≠g)(n:f<=g)
  (t:m.ownsRow f 146 3 (Y (N (T g 0 Z)) x.actN c) x.actN (cF x.act x.actN)) (q:s.ownsRow f 125 2 u (R.length+1) (R.flatMap bc++bc (x,g,c))) (i:m.grownBy s v.ownBlock):TRow s f u (R++[(x,g,c)]):=by
 have o:∀ k,TypeAt m k 146->N k≠v.ownBlock:=fun k A e=>eW A (h.type k e.symm) (by decide) rfl;refine⟨by simpa using q,fun r j=>?_,?_⟩
 ·rcases hU.1 j with j | j
  ·obtain⟨h1,⟨F,h2⟩,l,B⟩:=h.act r j
   have e:=i.block r.2.1 h1.1 (o _ l);exact⟨h1.block i.size e,⟨F,h2.block i.size e⟩,l.block e,B⟩
  ·simp at j
   subst j;obtain⟨h1,F,h2⟩:=kM t;have l:=jz t;have e:=i.block g h1.1 (o _ l);exact⟨h1.block i.size e,⟨F,h2.block i.size e⟩,l.block e,n⟩
 ·rw[KT]
  refine⟨h.up,by simp,fun a z b p=>?_⟩;simp at p;subst p;exact y a z
structure SpG (LS:List Source)(RT:List TR):Prop where
 s:∀ x∈LS,x.name.size<=5000/\x.text.size<=5000
 t:∀ r∈RT,r.1.name.size<=5000/\(1<=r.1.actN/\r.1.actN<=200)/\∀ j,j<r.1.actN->(r.1.act j).s.size<=5000
theorem EQ:SpG [] []:=⟨fun _ h=>absurd h nj,fun _ h=>absurd h nj⟩
theorem SpG.addS {LS:List Source}{RT:List TR}(h:SpG LS RT){x:Source}(h1:x.name.size<=5000)(h2:x.text.size<=5000):SpG (LS++[x]) RT:=by
 refine⟨fun y b=>?_,h.t⟩;rcases hU.1 b with b | b
 ·exact h.s y b
 ·rw[eT.1 b];exact⟨h1,h2⟩
theorem SpG.addT {LS:List Source}{RT:List TR}(h:SpG LS RT){r:TR}(h1:r.1.name.size<=5000)(h2:1<=r.1.actN/\r.1.actN<=200)(c:∀ j,j<r.1.actN->(r.1.act j).s.size<=5000):SpG LS (RT++[r]):=by
 refine⟨h.s,fun y b=>?_⟩;rcases hU.1 b with b | b
 ·exact h.t y b
 ·rw[eT.1 b];exact⟨h1,h2,c⟩
structure SpB (rb:Nat)(W:H)(v0 v1:QS)(LS:List Source)(RT:List TR):Prop where
 res:W.heap[rb]?=N (Q #[Y Z 0 0,Y Z 0 0] 29 (0,0))
 box:W.heap[rb+1]?=N (Q #[v0,v1] 29 (0,0))
 src:W.ownsRow (rb+2) 121 2 v0 LS.length (LS.flatMap bG)
 tgt:TRow W (rb+2) v1 RT
theorem pM {w j:H}{b:Nat}{v:QS}{R:List TR}{row:Option Nat}(h:TRow w b v R)(c:w.grownBy j row)(i:∀ k,row=N k->TypeAt w k 121):TRow j b v R:=by
 refine⟨h.own.kept c ?_,fun r f=>?_,h.up⟩
 ·cases hv:v.ownBlock with
  | none=>exact .inl rfl
  | some k=>exact .inr fun e=>eW (h.type k hv) (i k e.symm) (by decide) rfl
 ·obtain⟨h1,⟨F,h2⟩,g,l⟩:=h.act r f
  have e:=c.block r.2.1 h1.1 (fun m=>eW g (i _ m.symm) (by decide) rfl);exact⟨h1.block c.size e,⟨F,h2.block c.size e⟩,g.block e,l⟩
theorem er {w:H}{b size n:Nat}{e:TypeId}{v:QS}{j:List QS}(h:w.ownsRow b e size v n j):∀ k,v.ownBlock=N k->TypeAt w k e:=by
 intro k c;rcases h.2 with ⟨rfl,_⟩ | ⟨g,cap,f,rfl,_,i,_⟩
 ·cases c
 ·cases c
  exact⟨f,i⟩
section
variable {W W':H}{R rb:Nat}{v0 v1:QS}{LS:List Source}{RT:List TR}
theorem SpB.lt (h:SpB rb W v0 v1 LS RT):rb+1<W.heap.size:=ai h.box
theorem SpB.cells (h:SpB rb W v0 v1 LS RT):W.cell? (T (rb+1) 0 Z)=N v0/\W.cell? (T (rb+1) 1 Z)=N v1:=by have hb:=h.box;refine⟨?_,?_⟩<;>simp[World.cell?,hb]
theorem SpB.below (h:SpB rb W v0 v1 LS RT)(hb:Below W.heap.size W W'):SpB rb W' v0 v1 LS RT :=
 have hl:=h.lt
 ⟨(hb.block rb (by omega)).trans h.res,(hb.block (rb+1) h.lt).trans h.box,own_below h.src hb ly,h.tgt.below hb ly⟩
theorem SpB.only (h:SpB rb W v0 v1 LS RT)(b:Only R W W')(hR:R<rb):SpB rb W' v0 v1 LS RT:=by have hl:=h.lt;exact⟨(b.block rb (by omega) (by omega)).trans h.res,(b.block (rb+1) h.lt (by omega)).trans h.box,gw h.src b (by omega),h.tgt.only b (by omega)⟩
theorem EU (w:H):SpB w.heap.size ((w.alloc (Q #[Y Z 0 0,Y Z 0 0] 29)).alloc (Q #[Y Z 0 0,Y Z 0 0] 29)) (Y Z 0 0) (Y Z 0 0) [] []:=by
 have hz:(w.alloc (Q #[Y Z 0 0,Y Z 0 0] 29)).heap.size=w.heap.size+1:=by simp
 refine⟨?_,?_,CP _ _ _ _,dr _ _⟩
 ·exact(((eL (w.heap.size+1) _).alloc (by rw[hz];exact j5 _) _).block w.heap.size (j2 _)).trans (cM w _)
 ·have h2:=cM (w.alloc (Q #[Y Z 0 0,Y Z 0 0] 29)) (Q #[Y Z 0 0,Y Z 0 0] 29)
  rw[hz] at h2;exact h2
theorem SpB.addS {x:Source}{b:QS}(h:SpB rb W v0 v1 LS RT)(f:W'.ownsRow (rb+2) 121 2 b (LS.length+1) (LS.flatMap bG++bG x))(g:W.grownBy W' v0.ownBlock):SpB rb (W'.setCell (T (rb+1) 0 Z) b) b v1 (LS++[x]) RT/\Below (rb+1) W (W'.setCell (T (rb+1) 0 Z) b):=by
 have hlt:=h.lt;have i:Below (rb+2) W W':=(eL (rb+2) W).grown g (by omega) fun k c=>(h.src.lt k c).1;have l:Below (rb+1) W (W'.setCell (T (rb+1) 0 Z) b):=(i.mono (vF _)).setCell (p:=(T (rb+1) 0 Z)) ly b;refine⟨⟨(l.block rb (j2 _)).trans h.res,?_,?_,?_⟩,l⟩
 ·exact bM ((i.block (rb+1) (j2 _)).trans h.box) b
 ·have h2:=aS (R:=rb+1) (j:=0) f (j2 _) b
  rw[a8,HH];simpa using h2
 ·exact(pM h.tgt g fun k c=>er h.src k c).set (j2 _) b
theorem SpB.addT {x:Target}{g c:Nat}{b:QS}(h:SpB rb W v0 v1 LS RT)(o:∀ r∈RT,r.2.1≠g)(l:W.ownsRow (rb+2) 146 3 (Y (N (T g 0 Z)) x.actN c) x.actN (cF x.act x.actN))
  (f:W'.ownsRow (rb+2) 125 2 b (RT.length+1) (RT.flatMap bc++bc (x,g,c))) (i:W.grownBy W' v1.ownBlock):SpB rb (W'.setCell (T (rb+1) 1 Z) b) v0 b LS (RT++[(x,g,c)])/\Below (rb+1) W (W'.setCell (T (rb+1) 1 Z) b):=by
 have hlt:=h.lt;have hb:rb+2<=g:=(l.lt g rfl).1;have m:Below (rb+2) W W':=(eL (rb+2) W).grown i (by omega) fun k q=>(h.tgt.own.lt k q).1;have n:Below (rb+1) W (W'.setCell (T (rb+1) 1 Z) b):=(m.mono (vF _)).setCell (p:=(T (rb+1) 1 Z)) ly b;refine⟨⟨(n.block rb (j2 _)).trans h.res,?_,?_,?_⟩,n⟩
 ·exact bM ((m.block (rb+1) (j2 _)).trans h.box) b
 ·refine aS (R:=rb+1) (j:=1) (h.src.kept i ?_) (j2 _) b
  cases hv:v0.ownBlock with
  | none=>exact .inl rfl
  | some k=>exact .inr fun e=>eW (er h.src k hv) (h.tgt.type k e.symm) (by decide) rfl
 ·exact(h.tgt.more2 o hb l f i).set (j2 _) b
end
def Agr (b:Nat)(w V:H):Prop:=w.heap.size<=V.heap.size/\∀ k,b<=k->k<w.heap.size->V.heap[k]?=w.heap[k]?
theorem Agr.refl (b:Nat)(w:H):Agr b w w:=⟨j5 _,fun _ _ _=>rfl⟩
theorem Agr.trans {b:Nat}{w v u:H}(h:Agr b w v)(k:Agr b v u):Agr b w u :=
 ⟨j4 h.1 k.1,fun i h1 h2=>(k.2 i h1 (lj h2 h.1)).trans (h.2 i h1 h2)⟩
theorem Only.agr {R b:Nat}{w V:H}(h:Only R w V)(hR:R<b):Agr b w V:=⟨h.size,fun k h1 h2=>h.block k h2 (by omega)⟩
theorem bh {b B:Nat}{w V:H}(h:Below B w V)(hB:w.heap.size<=B):Agr b w V:=⟨h.size,fun k _ h2=>h.block k (by omega)⟩
theorem Agr.mono {b c:Nat}{w V:H}(h:Agr b w V)(hb:b<=c):Agr c w V:=⟨h.1,fun k h1 h2=>h.2 k (by omega) h2⟩
theorem eZ {w V:H}{b n size:Nat}{e:TypeId}{v:QS}{i:List QS}(h:w.ownsRow b e size v n i)(j:Agr b w V):V.ownsRow b e size v n i:=by
 refine⟨h.1,?_⟩;rcases h.2 with h1 | ⟨g,cap,f,rfl,hb,c,h2⟩
 ·exact .inl h1
 ·exact .inr ⟨g,cap,f,rfl,hb,(j.2 g hb (ai c)).trans c,h2⟩
theorem TRow.agr {w V:H}{b:Nat}{v:QS}{R:List TR}(h:TRow w b v R)(c:Agr b w V):TRow V b v R:=by refine⟨eZ h.own c,fun r g=>?_,h.up⟩;obtain⟨h1,⟨F,h2⟩,i,f⟩:=h.act r g;have e:=c.2 r.2.1 f h1.1;exact⟨h1.block c.1 e,⟨F,h2.block c.1 e⟩,i.block e,f⟩
structure HSp (base:Nat)(w:H)(a0:Option Addr)(n0:Nat)(f0:Nat->Source)(a1:Option Addr)(n1:Nat)(f1:Nat->Target):Prop where
 sl:∀ V,Agr base w V->SlSource V a0 n0 f0/\SlTarget V a1 n1 f1
 hn0:n0<=300
 hn1:n1<=300
 fit:∀ i,i<n1->(f1 i).actN<=300/\∀ j,j<(f1 i).actN->((f1 i).act j).s.size<=5000
theorem HSp.agr {b:Nat}{w V:H}{a0:Option Addr}{n0:Nat}{f0:Nat->Source}{a1:Option Addr}{n1:Nat}{f1:Nat->Target}(h:HSp b w a0 n0 f0 a1 n1 f1)(c:Agr b w V):HSp b V a0 n0 f0 a1 n1 f1 :=
 ⟨fun QY f=>h.sl QY (c.trans f),h.hn0,h.hn1,h.fit⟩
theorem HSp.mono {b c:Nat}{w:H}{a0:Option Addr}{n0:Nat}{f0:Nat->Source}{a1:Option Addr}{n1:Nat}{f1:Nat->Target}(h:HSp b w a0 n0 f0 a1 n1 f1)(hb:c<=b):HSp c w a0 n0 f0 a1 n1 f1 :=
 ⟨fun QY f=>h.sl QY (f.mono hb),h.hn0,h.hn1,h.fit⟩
theorem fv {w:H}{b n0 c0 n1 c1:Nat}{a0 a1:Option Addr}{LS:List Source}{RT:List TR}(f:w.ownsRow b 121 2 (Y a0 n0 c0) LS.length (LS.flatMap bG))(h:n0=LS.length)(g:TRow w b (Y a1 n1 c1) RT)(m:n1=RT.length)(l:LS.length<=300)(h1:RT.length<=300)
  (n:∀ r∈RT,r.1.actN<=300/\∀ j,j<r.1.actN->(r.1.act j).s.size<=5000):HSp b w a0 n0 (aR LS) a1 n1 (aT (RT.map (·.1))):=by
 subst h m;refine⟨fun V c=>⟨nG (eZ f c),Cl (g.agr c)⟩,l,h1,fun i hi=>?_⟩;have e:aT (RT.map (·.1)) i=RT[i].1:=by simp[aT,hi]
 rw[e];exact n _ (gj hi)
def DH (w:H)(R q:Nat)(e:Ending)(b:H):Prop:=∃ (a0:Option Addr) (n0 c0:Nat) (f0:Nat->Source) (a1:Option Addr) (n1 c1:Nat) (f1:Nat->Target),e=.returned (.agg #[Y a0 n0 c0,Y a1 n1 c1])/\HSp w.heap.size b a0 n0 f0 a1 n1 f1/\∃ c:Nat,c<=q/\Rd b R c/\Only R w b
end Go.Proofs.YtamacmnikdejeaaGreatDoor.Vp
