import Derived.Test.YtamacmnikdejeaaGreatDoorRM
import Derived.Test.YtamacmnikdejeaaGreatDoorSZ
open Go.Addr renaming mk->N
open Go.Value renaming slice->Y
open Option renaming none->Z,some->T
open Go.Obj renaming cells->Q
open Go renaming World->G,Value->QE
namespace Go.Proofs.YtamacmnikdejeaaGreatDoor.Vp
open RowKit
theorem TRow.only {w g:G}{b X:Nat}{v:QE}{R:List TR}(h:TRow w b v R)(f:Only X w g)(hX:X<b):TRow g b v R:=by refine⟨fL h.own f hX,fun r j=>?_,h.up⟩;obtain⟨h1,⟨F,h2⟩,l,i⟩:=h.act r j;have e:=f.block r.2.1 h1.1 (by omega);exact⟨h1.block f.size e,⟨F,h2.block f.size e⟩,l.block e,i⟩
theorem TRow.more2 {n s:G}{f g c:Nat}{v t:QE}{R:List TR}{x:Target}(h:TRow n f v R)(z:∀ r∈R,r.2.1≠g)(m:f<=g)
  (u:n.ownsRow f 146 3 (Y (T (N g 0 Z)) x.actN c) x.actN (ct x.act x.actN)) (q:s.ownsRow f 125 2 t (R.length+1) (R.flatMap bc++bc (x,g,c))) (i:n.grownBy s v.ownBlock):TRow s f t (R++[(x,g,c)]):=by
 have p:∀ k,TypeAt n k 146->T k≠v.ownBlock:=fun k A e=>eC A (h.type k e.symm) (by decide) rfl;refine⟨by simpa using q,fun r j=>?_,?_⟩
 ·rcases nL.1 j with j | j
  ·obtain⟨h1,⟨F,h2⟩,l,y⟩:=h.act r j
   have e:=i.block r.2.1 h1.1 (p _ l);exact⟨h1.block i.size e,⟨F,h2.block i.size e⟩,l.block e,y⟩
  ·simp at j
   subst j;obtain⟨h1,F,h2⟩:=jX u;have l:=iZ u;have e:=i.block g h1.1 (p _ l);exact⟨h1.block i.size e,⟨F,h2.block i.size e⟩,l.block e,m⟩
 ·rw[JG]
  refine⟨h.up,by simp,fun a B b o=>?_⟩;simp at o;subst o;exact z a B
structure SpG (LS:List Source)(RT:List TR):Prop where
 s:∀ x∈LS,x.name.size<=5000/\x.text.size<=5000
 t:∀ r∈RT,r.1.name.size<=5000/\(1<=r.1.actN/\r.1.actN<=200)/\∀ j,j<r.1.actN->(r.1.act j).s.size<=5000
theorem CZ:SpG [] []:=⟨fun _ h=>absurd h nj,fun _ h=>absurd h nj⟩
theorem SpG.addS {LS:List Source}{RT:List TR}(h:SpG LS RT){x:Source}(h1:x.name.size<=5000)(h2:x.text.size<=5000):SpG (LS++[x]) RT:=by
 refine⟨fun y b=>?_,h.t⟩;rcases nL.1 b with b | b
 ·exact h.s y b
 ·rw[hU.1 b];exact⟨h1,h2⟩
theorem SpG.addT {LS:List Source}{RT:List TR}(h:SpG LS RT){r:TR}(h1:r.1.name.size<=5000)(h2:1<=r.1.actN/\r.1.actN<=200)(f:∀ j,j<r.1.actN->(r.1.act j).s.size<=5000):SpG LS (RT++[r]):=by
 refine⟨h.s,fun y b=>?_⟩;rcases nL.1 b with b | b
 ·exact h.t y b
 ·rw[hU.1 b];exact⟨h1,h2,f⟩
structure SpB (rb:Nat)(W:G)(v0 v1:QE)(LS:List Source)(RT:List TR):Prop where
 res:W.heap[rb]?=T (Q #[Y Z 0 0,Y Z 0 0] 29 (0,0))
 box:W.heap[rb+1]?=T (Q #[v0,v1] 29 (0,0))
 src:W.ownsRow (rb+2) 121 2 v0 LS.length (LS.flatMap bC)
 tgt:TRow W (rb+2) v1 RT
theorem pd {w j:G}{b:Nat}{v:QE}{R:List TR}{row:Option Nat}(h:TRow w b v R)(f:w.grownBy j row)(g:∀ k,row=T k->TypeAt w k 121):TRow j b v R:=by
 refine⟨h.own.kept f ?_,fun r l=>?_,h.up⟩
 ·cases hv:v.ownBlock with
  | none=>exact .inl rfl
  | some k=>exact .inr fun e=>eC (h.type k hv) (g k e.symm) (by decide) rfl
 ·obtain⟨h1,⟨F,h2⟩,i,m⟩:=h.act r l
  have e:=f.block r.2.1 h1.1 (fun n=>eC i (g _ n.symm) (by decide) rfl);exact⟨h1.block f.size e,⟨F,h2.block f.size e⟩,i.block e,m⟩
theorem dT {w:G}{b size n:Nat}{e:TypeId}{v:QE}{j:List QE}(h:w.ownsRow b e size v n j):∀ k,v.ownBlock=T k->TypeAt w k e:=by
 intro k f;rcases h.2 with ⟨rfl,_⟩ | ⟨g,cap,i,rfl,_,l,_⟩
 ·cases f
 ·cases f
  exact⟨i,l⟩
section
variable {W W':G}{R rb:Nat}{v0 v1:QE}{LS:List Source}{RT:List TR}
theorem SpB.lt (h:SpB rb W v0 v1 LS RT):rb+1<W.heap.size:=ai h.box
theorem SpB.cells (h:SpB rb W v0 v1 LS RT):W.cell? (N (rb+1) 0 Z)=T v0/\W.cell? (N (rb+1) 1 Z)=T v1:=by have hb:=h.box;refine⟨?_,?_⟩<;>simp[World.cell?,hb]
theorem SpB.below (h:SpB rb W v0 v1 LS RT)(hb:Below W.heap.size W W'):SpB rb W' v0 v1 LS RT :=
 have hl:=h.lt
 ⟨(hb.block rb (by omega)).trans h.res,(hb.block (rb+1) h.lt).trans h.box,own_below h.src hb ly,h.tgt.below hb ly⟩
theorem SpB.only (h:SpB rb W v0 v1 LS RT)(b:Only R W W')(hR:R<rb):SpB rb W' v0 v1 LS RT:=by have hl:=h.lt;exact⟨(b.block rb (by omega) (by omega)).trans h.res,(b.block (rb+1) h.lt (by omega)).trans h.box,fL h.src b (by omega),h.tgt.only b (by omega)⟩
theorem Dc (w:G):SpB w.heap.size ((w.alloc (Q #[Y Z 0 0,Y Z 0 0] 29)).alloc (Q #[Y Z 0 0,Y Z 0 0] 29)) (Y Z 0 0) (Y Z 0 0) [] []:=by
 have hz:(w.alloc (Q #[Y Z 0 0,Y Z 0 0] 29)).heap.size=w.heap.size+1:=by simp
 refine⟨?_,?_,BG _ _ _ _,cT _ _⟩
 ·exact(((a8 (w.heap.size+1) _).alloc (by rw[hz];exact j6 _) _).block w.heap.size (eL _)).trans (eT w _)
 ·have h2:=eT (w.alloc (Q #[Y Z 0 0,Y Z 0 0] 29)) (Q #[Y Z 0 0,Y Z 0 0] 29)
  rw[hz] at h2;exact h2
theorem SpB.addS {x:Source}{b:QE}(h:SpB rb W v0 v1 LS RT)(g:W'.ownsRow (rb+2) 121 2 b (LS.length+1) (LS.flatMap bC++bC x))(m:W.grownBy W' v0.ownBlock):SpB rb (W'.setCell (N (rb+1) 0 Z) b) b v1 (LS++[x]) RT/\Below (rb+1) W (W'.setCell (N (rb+1) 0 Z) b):=by
 have hlt:=h.lt;have i:Below (rb+2) W W':=(a8 (rb+2) W).grown m (by omega) fun k f=>(h.src.lt k f).1;have l:Below (rb+1) W (W'.setCell (N (rb+1) 0 Z) b):=(i.mono (CV _)).setCell (p:=(N (rb+1) 0 Z)) ly b;refine⟨⟨(l.block rb (eL _)).trans h.res,?_,?_,?_⟩,l⟩
 ·exact bI ((i.block (rb+1) (eL _)).trans h.box) b
 ·have h2:=aV (R:=rb+1) (j:=0) g (eL _) b
  rw[eI,EQ];simpa using h2
 ·exact(pd h.tgt m fun k f=>dT h.src k f).set (eL _) b
theorem SpB.addT {x:Target}{g c:Nat}{b:QE}(h:SpB rb W v0 v1 LS RT)(o:∀ r∈RT,r.2.1≠g)(n:W.ownsRow (rb+2) 146 3 (Y (T (N g 0 Z)) x.actN c) x.actN (ct x.act x.actN))
  (i:W'.ownsRow (rb+2) 125 2 b (RT.length+1) (RT.flatMap bc++bc (x,g,c))) (f:W.grownBy W' v1.ownBlock):SpB rb (W'.setCell (N (rb+1) 1 Z) b) v0 b LS (RT++[(x,g,c)])/\Below (rb+1) W (W'.setCell (N (rb+1) 1 Z) b):=by
 have hlt:=h.lt;have hb:rb+2<=g:=(n.lt g rfl).1;have l:Below (rb+2) W W':=(a8 (rb+2) W).grown f (by omega) fun k q=>(h.tgt.own.lt k q).1;have m:Below (rb+1) W (W'.setCell (N (rb+1) 1 Z) b):=(l.mono (CV _)).setCell (p:=(N (rb+1) 1 Z)) ly b;refine⟨⟨(m.block rb (eL _)).trans h.res,?_,?_,?_⟩,m⟩
 ·exact bI ((l.block (rb+1) (eL _)).trans h.box) b
 ·refine aV (R:=rb+1) (j:=1) (h.src.kept f ?_) (eL _) b
  cases hv:v0.ownBlock with
  | none=>exact .inl rfl
  | some k=>exact .inr fun e=>eC (dT h.src k hv) (h.tgt.type k e.symm) (by decide) rfl
 ·exact(h.tgt.more2 o hb n i f).set (eL _) b
end
def Agr (b:Nat)(w V:G):Prop:=w.heap.size<=V.heap.size/\∀ k,b<=k->k<w.heap.size->V.heap[k]?=w.heap[k]?
theorem Agr.refl (b:Nat)(w:G):Agr b w w:=⟨j6 _,fun _ _ _=>rfl⟩
theorem Agr.trans {b:Nat}{w v u:G}(h:Agr b w v)(k:Agr b v u):Agr b w u :=
 ⟨p9 h.1 k.1,fun i h1 h2=>(k.2 i h1 (lj h2 h.1)).trans (h.2 i h1 h2)⟩
theorem Only.agr {R b:Nat}{w V:G}(h:Only R w V)(hR:R<b):Agr b w V:=⟨h.size,fun k h1 h2=>h.block k h2 (by omega)⟩
theorem dh {b B:Nat}{w V:G}(h:Below B w V)(hB:w.heap.size<=B):Agr b w V:=⟨h.size,fun k _ h2=>h.block k (by omega)⟩
theorem Agr.mono {b f:Nat}{w V:G}(h:Agr b w V)(hb:b<=f):Agr f w V:=⟨h.1,fun k h1 h2=>h.2 k (by omega) h2⟩
theorem eG {w V:G}{b n size:Nat}{e:TypeId}{v:QE}{i:List QE}(h:w.ownsRow b e size v n i)(l:Agr b w V):V.ownsRow b e size v n i:=by
 refine⟨h.1,?_⟩;rcases h.2 with h1 | ⟨g,cap,f,rfl,hb,j,h2⟩
 ·exact .inl h1
 ·exact .inr ⟨g,cap,f,rfl,hb,(l.2 g hb (ai j)).trans j,h2⟩
theorem TRow.agr {w V:G}{b:Nat}{v:QE}{R:List TR}(h:TRow w b v R)(f:Agr b w V):TRow V b v R:=by refine⟨eG h.own f,fun r i=>?_,h.up⟩;obtain⟨h1,⟨F,h2⟩,j,g⟩:=h.act r i;have e:=f.2 r.2.1 g h1.1;exact⟨h1.block f.1 e,⟨F,h2.block f.1 e⟩,j.block e,g⟩
structure HSp (base:Nat)(w:G)(a0:Option Addr)(n0:Nat)(f0:Nat->Source)(a1:Option Addr)(n1:Nat)(f1:Nat->Target):Prop where
 sl:∀ V,Agr base w V->SlSource V a0 n0 f0/\SlTarget V a1 n1 f1
 hn0:n0<=300
 hn1:n1<=300
 fit:∀ i,i<n1->(f1 i).actN<=300/\∀ j,j<(f1 i).actN->((f1 i).act j).s.size<=5000
theorem HSp.agr {b:Nat}{w V:G}{a0:Option Addr}{n0:Nat}{f0:Nat->Source}{a1:Option Addr}{n1:Nat}{f1:Nat->Target}(h:HSp b w a0 n0 f0 a1 n1 f1)(f:Agr b w V):HSp b V a0 n0 f0 a1 n1 f1 :=
 ⟨fun QK g=>h.sl QK (f.trans g),h.hn0,h.hn1,h.fit⟩
theorem HSp.mono {b f:Nat}{w:G}{a0:Option Addr}{n0:Nat}{f0:Nat->Source}{a1:Option Addr}{n1:Nat}{f1:Nat->Target}(h:HSp b w a0 n0 f0 a1 n1 f1)(hb:f<=b):HSp f w a0 n0 f0 a1 n1 f1 :=
 ⟨fun QK g=>h.sl QK (g.mono hb),h.hn0,h.hn1,h.fit⟩
theorem eX {w:G}{b n0 c0 n1 c1:Nat}{a0 a1:Option Addr}{LS:List Source}{RT:List TR}(g:w.ownsRow b 121 2 (Y a0 n0 c0) LS.length (LS.flatMap bC))(o:n0=LS.length)(m:TRow w b (Y a1 n1 c1) RT)(l:n1=RT.length)(n:LS.length<=300)(h1:RT.length<=300)
  (h:∀ r∈RT,r.1.actN<=300/\∀ j,j<r.1.actN->(r.1.act j).s.size<=5000):HSp b w a0 n0 (ba LS) a1 n1 (be (RT.map (·.1))):=by
 subst o l;refine⟨fun V f=>⟨mL (eG g f),zZ (m.agr f)⟩,n,h1,fun i hi=>?_⟩;have e:be (RT.map (·.1)) i=RT[i].1:=by simp[be,hi]
 rw[e];exact h _ (gj hi)
def DH (w:G)(R q:Nat)(e:Ending)(b:G):Prop:=∃ (a0:Option Addr) (n0 c0:Nat) (f0:Nat->Source) (a1:Option Addr) (n1 c1:Nat) (f1:Nat->Target),e=.returned (.agg #[Y a0 n0 c0,Y a1 n1 c1])/\HSp w.heap.size b a0 n0 f0 a1 n1 f1/\∃ f:Nat,f<=q/\Rd b R f/\Only R w b
end Go.Proofs.YtamacmnikdejeaaGreatDoor.Vp
