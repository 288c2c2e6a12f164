import Derived.Test.YtkdimgejdocbbaaGreatDoorYL
import Derived.Test.YtkdimgejdocbbaaGreatDoorZY
open Go.Addr renaming mk->J
open Go.Value renaming slice->Y
open Option renaming none->Z,some->Q
open Go.Obj renaming cells->T
open Go renaming World->E,Value->QB
namespace Go.Proofs.YtkdimgejdocbbaaGreatDoor.Vp
open RowKit
theorem TRow.only {w f:E}{b X:Nat}{v:QB}{R:List TR}(h:TRow w b v R)(d:Only X w f)(j:X<b):TRow f b v R:=by refine⟨gy h.own d j,fun r k=>?_,h.up⟩;obtain⟨h1,⟨F,h2⟩,g,i⟩:=h.act r k;have e:=d.block r.2.1 h1.1 (by omega);exact⟨h1.block d.size e,⟨F,h2.block d.size e⟩,g.block e,i⟩
theorem TRow.more2 {m p:E}{d g c:Nat}{v t:QB}{R:List TR}{x:Target}(h:TRow m d v R)(y:∀ r∈R,r.2.1≠g)(l:d<=g)
  (s:m.ownsRow d 188 3 (Y (Q (J g 0 Z)) x.actN c) x.actN (cB x.act x.actN)) (q:p.ownsRow d 108 2 t (R.length+1) (R.flatMap aV++aV (x,g,c))) (f:m.grownBy p v.ownBlock):TRow p d t (R++[(x,g,c)]):=by
 have n:∀ k,TypeAt m k 188->Q k≠v.ownBlock:=fun k u e=>ey u (h.type k e.symm) (by decide) rfl;refine⟨by simpa using q,fun r i=>?_,?_⟩
 ·rcases kP.1 i with i | i
  ·obtain⟨h1,⟨F,h2⟩,j,A⟩:=h.act r i
   have e:=f.block r.2.1 h1.1 (n _ j);exact⟨h1.block f.size e,⟨F,h2.block f.size e⟩,j.block e,A⟩
  ·simp at i
   subst i;obtain⟨h1,F,h2⟩:=jN s;have j:=iX s;have e:=f.block g h1.1 (n _ j);exact⟨h1.block f.size e,⟨F,h2.block f.size e⟩,j.block e,l⟩
 ·rw[IX]
  refine⟨h.up,by simp,fun a z b o=>?_⟩;simp at o;subst o;exact y a z
structure SpG (LS:List Source)(RT:List TR):Prop where
 s:∀ x∈LS,x.name.size<=5000/\x.text.size<=5000
 t:∀ r∈RT,r.1.name.size<=5000/\(1<=r.1.actN/\r.1.actN<=200)/\∀ j,j<r.1.actN->(r.1.act j).s.size<=5000
theorem Dm:SpG [] []:=⟨fun _ h=>absurd h nj,fun _ h=>absurd h nj⟩
theorem SpG.addS {LS:List Source}{RT:List TR}(h:SpG LS RT){x:Source}(h1:x.name.size<=5000)(h2:x.text.size<=5000):SpG (LS++[x]) RT:=by
 refine⟨fun y b=>?_,h.t⟩;rcases kP.1 b with b | b
 ·exact h.s y b
 ·rw[j3.1 b];exact⟨h1,h2⟩
theorem SpG.addT {LS:List Source}{RT:List TR}(h:SpG LS RT){r:TR}(h1:r.1.name.size<=5000)(h2:1<=r.1.actN/\r.1.actN<=200)(d:∀ j,j<r.1.actN->(r.1.act j).s.size<=5000):SpG LS (RT++[r]):=by
 refine⟨h.s,fun y b=>?_⟩;rcases kP.1 b with b | b
 ·exact h.t y b
 ·rw[j3.1 b];exact⟨h1,h2,d⟩
structure SpB (rb:Nat)(W:E)(v0 v1:QB)(LS:List Source)(RT:List TR):Prop where
 res:W.heap[rb]?=Q (T #[Y Z 0 0,Y Z 0 0] 26 (0,0))
 box:W.heap[rb+1]?=Q (T #[v0,v1] 26 (0,0))
 src:W.ownsRow (rb+2) 104 2 v0 LS.length (LS.flatMap bC)
 tgt:TRow W (rb+2) v1 RT
theorem oH {w g:E}{b:Nat}{v:QB}{R:List TR}{row:Option Nat}(h:TRow w b v R)(d:w.grownBy g row)(j:∀ k,row=Q k->TypeAt w k 104):TRow g b v R:=by
 refine⟨h.own.kept d ?_,fun r i=>?_,h.up⟩
 ·cases hv:v.ownBlock with
  | none=>exact .inl rfl
  | some k=>exact .inr fun e=>ey (h.type k hv) (j k e.symm) (by decide) rfl
 ·obtain⟨h1,⟨F,h2⟩,f,m⟩:=h.act r i
  have e:=d.block r.2.1 h1.1 (fun l=>ey f (j _ l.symm) (by decide) rfl);exact⟨h1.block d.size e,⟨F,h2.block d.size e⟩,f.block e,m⟩
theorem dQ {w:E}{b size n:Nat}{e:TypeId}{v:QB}{i:List QB}(h:w.ownsRow b e size v n i):∀ k,v.ownBlock=Q k->TypeAt w k e:=by
 intro k d;rcases h.2 with ⟨rfl,_⟩ | ⟨g,cap,f,rfl,_,j,_⟩
 ·cases d
 ·cases d
  exact⟨f,j⟩
section
variable {W W':E}{R rb:Nat}{v0 v1:QB}{LS:List Source}{RT:List TR}
theorem SpB.lt (h:SpB rb W v0 v1 LS RT):rb+1<W.heap.size:=aC h.box
theorem SpB.cells (h:SpB rb W v0 v1 LS RT):W.cell? (J (rb+1) 0 Z)=Q v0/\W.cell? (J (rb+1) 1 Z)=Q v1:=by have hb:=h.box;refine⟨?_,?_⟩<;>simp[World.cell?,hb]
theorem SpB.below (h:SpB rb W v0 v1 LS RT)(hb:Below W.heap.size W W'):SpB rb W' v0 v1 LS RT :=
 have hl:=h.lt
 ⟨(hb.block rb (by omega)).trans h.res,(hb.block (rb+1) h.lt).trans h.box,own_below h.src hb lr,h.tgt.below hb lr⟩
theorem SpB.only (h:SpB rb W v0 v1 LS RT)(b:Only R W W')(hR:R<rb):SpB rb W' v0 v1 LS RT:=by have hl:=h.lt;exact⟨(b.block rb (by omega) (by omega)).trans h.res,(b.block (rb+1) h.lt (by omega)).trans h.box,gy h.src b (by omega),h.tgt.only b (by omega)⟩
theorem Dn (w:E):SpB w.heap.size ((w.alloc (T #[Y Z 0 0,Y Z 0 0] 26)).alloc (T #[Y Z 0 0,Y Z 0 0] 26)) (Y Z 0 0) (Y Z 0 0) [] []:=by
 have hz:(w.alloc (T #[Y Z 0 0,Y Z 0 0] 26)).heap.size=w.heap.size+1:=by simp
 refine⟨?_,?_,E4 _ _ _ _,dT _ _⟩
 ·exact(((eI (w.heap.size+1) _).alloc (by rw[hz];exact j6 _) _).block w.heap.size (lj _)).trans (eL w _)
 ·have h2:=eL (w.alloc (T #[Y Z 0 0,Y Z 0 0] 26)) (T #[Y Z 0 0,Y Z 0 0] 26)
  rw[hz] at h2;exact h2
theorem SpB.addS {x:Source}{b:QB}(h:SpB rb W v0 v1 LS RT)(f:W'.ownsRow (rb+2) 104 2 b (LS.length+1) (LS.flatMap bC++bC x))(i:W.grownBy W' v0.ownBlock):SpB rb (W'.setCell (J (rb+1) 0 Z) b) b v1 (LS++[x]) RT/\Below (rb+1) W (W'.setCell (J (rb+1) 0 Z) b):=by
 have hlt:=h.lt;have l:Below (rb+2) W W':=(eI (rb+2) W).grown i (by omega) fun k d=>(h.src.lt k d).1;have g:Below (rb+1) W (W'.setCell (J (rb+1) 0 Z) b):=(l.mono (AS _)).setCell (p:=(J (rb+1) 0 Z)) lr b;refine⟨⟨(g.block rb (lj _)).trans h.res,?_,?_,?_⟩,g⟩
 ·exact ee ((l.block (rb+1) (lj _)).trans h.box) b
 ·have h2:=aG (R:=rb+1) (j:=0) f (lj _) b
  rw[cM,IB];simpa using h2
 ·exact(oH h.tgt i fun k d=>dQ h.src k d).set (lj _) b
theorem SpB.addT {x:Target}{g c:Nat}{b:QB}(h:SpB rb W v0 v1 LS RT)(o:∀ r∈RT,r.2.1≠g)(i:W.ownsRow (rb+2) 188 3 (Y (Q (J g 0 Z)) x.actN c) x.actN (cB x.act x.actN))
  (f:W'.ownsRow (rb+2) 108 2 b (RT.length+1) (RT.flatMap aV++aV (x,g,c))) (d:W.grownBy W' v1.ownBlock):SpB rb (W'.setCell (J (rb+1) 1 Z) b) v0 b LS (RT++[(x,g,c)])/\Below (rb+1) W (W'.setCell (J (rb+1) 1 Z) b):=by
 have hlt:=h.lt;have hb:rb+2<=g:=(i.lt g rfl).1;have l:Below (rb+2) W W':=(eI (rb+2) W).grown d (by omega) fun k n=>(h.tgt.own.lt k n).1;have m:Below (rb+1) W (W'.setCell (J (rb+1) 1 Z) b):=(l.mono (AS _)).setCell (p:=(J (rb+1) 1 Z)) lr b;refine⟨⟨(m.block rb (lj _)).trans h.res,?_,?_,?_⟩,m⟩
 ·exact ee ((l.block (rb+1) (lj _)).trans h.box) b
 ·refine aG (R:=rb+1) (j:=1) (h.src.kept d ?_) (lj _) b
  cases hv:v0.ownBlock with
  | none=>exact .inl rfl
  | some k=>exact .inr fun e=>ey (dQ h.src k hv) (h.tgt.type k e.symm) (by decide) rfl
 ·exact(h.tgt.more2 o hb i f d).set (lj _) b
end
def Agr (b:Nat)(w V:E):Prop:=w.heap.size<=V.heap.size/\∀ k,b<=k->k<w.heap.size->V.heap[k]?=w.heap[k]?
theorem Agr.refl (b:Nat)(w:E):Agr b w w:=⟨j6 _,fun _ _ _=>rfl⟩
theorem Agr.trans {b:Nat}{w v u:E}(h:Agr b w v)(k:Agr b v u):Agr b w u :=
 ⟨j5 h.1 k.1,fun i h1 h2=>(k.2 i h1 (ll h2 h.1)).trans (h.2 i h1 h2)⟩
theorem Only.agr {R b:Nat}{w V:E}(h:Only R w V)(hR:R<b):Agr b w V:=⟨h.size,fun k h1 h2=>h.block k h2 (by omega)⟩
theorem dB {b B:Nat}{w V:E}(h:Below B w V)(hB:w.heap.size<=B):Agr b w V:=⟨h.size,fun k _ h2=>h.block k (by omega)⟩
theorem Agr.mono {b d:Nat}{w V:E}(h:Agr b w V)(hb:b<=d):Agr d w V:=⟨h.1,fun k h1 h2=>h.2 k (by omega) h2⟩
theorem iN {w V:E}{b n size:Nat}{e:TypeId}{v:QB}{d:List QB}(h:w.ownsRow b e size v n d)(k:Agr b w V):V.ownsRow b e size v n d:=by
 refine⟨h.1,?_⟩;rcases h.2 with h1 | ⟨g,i,j,rfl,hb,f,h2⟩
 ·exact .inl h1
 ·exact .inr ⟨g,i,j,rfl,hb,(k.2 g hb (aC f)).trans f,h2⟩
theorem TRow.agr {w V:E}{b:Nat}{v:QB}{R:List TR}(h:TRow w b v R)(d:Agr b w V):TRow V b v R:=by refine⟨iN h.own d,fun r i=>?_,h.up⟩;obtain⟨h1,⟨F,h2⟩,g,f⟩:=h.act r i;have e:=d.2 r.2.1 f h1.1;exact⟨h1.block d.1 e,⟨F,h2.block d.1 e⟩,g.block e,f⟩
structure HSp (base:Nat)(w:E)(a0:Option Addr)(n0:Nat)(f0:Nat->Source)(a1:Option Addr)(n1:Nat)(f1:Nat->Target):Prop where
 sl:∀ V,Agr base w V->SlSource V a0 n0 f0/\SlTarget V a1 n1 f1
 hn0:n0<=300
 hn1:n1<=300
 fit:∀ i,i<n1->(f1 i).actN<=300/\∀ j,j<(f1 i).actN->((f1 i).act j).s.size<=5000
theorem HSp.agr {b:Nat}{w V:E}{a0:Option Addr}{n0:Nat}{f0:Nat->Source}{a1:Option Addr}{n1:Nat}{f1:Nat->Target}(h:HSp b w a0 n0 f0 a1 n1 f1)(f:Agr b w V):HSp b V a0 n0 f0 a1 n1 f1 :=
 ⟨fun QJ d=>h.sl QJ (f.trans d),h.hn0,h.hn1,h.fit⟩
theorem HSp.mono {b d:Nat}{w:E}{a0:Option Addr}{n0:Nat}{f0:Nat->Source}{a1:Option Addr}{n1:Nat}{f1:Nat->Target}(h:HSp b w a0 n0 f0 a1 n1 f1)(hb:d<=b):HSp d w a0 n0 f0 a1 n1 f1 :=
 ⟨fun QJ f=>h.sl QJ (f.mono hb),h.hn0,h.hn1,h.fit⟩
theorem fo {w:E}{b n0 c0 n1 c1:Nat}{a0 a1:Option Addr}{LS:List Source}{RT:List TR}(g:w.ownsRow b 104 2 (Y a0 n0 c0) LS.length (LS.flatMap bC))(h:n0=LS.length)(f:TRow w b (Y a1 n1 c1) RT)(l:n1=RT.length)(m:LS.length<=300)(h1:RT.length<=300)
  (k:∀ r∈RT,r.1.actN<=300/\∀ j,j<r.1.actN->(r.1.act j).s.size<=5000):HSp b w a0 n0 (aP LS) a1 n1 (bo (RT.map (·.1))):=by
 subst h l;refine⟨fun V d=>⟨jO (iN g d),sf (f.agr d)⟩,m,h1,fun i hi=>?_⟩;have e:bo (RT.map (·.1)) i=RT[i].1:=by simp[bo,hi]
 rw[e];exact k _ (gz hi)
def DH (w:E)(R q:Nat)(e:Ending)(b:E):Prop:=∃ (a0:Option Addr) (n0 c0:Nat) (f0:Nat->Source) (a1:Option Addr) (n1 c1:Nat) (f1:Nat->Target),e=.returned (.agg #[Y a0 n0 c0,Y a1 n1 c1])/\HSp w.heap.size b a0 n0 f0 a1 n1 f1/\∃ d:Nat,d<=q/\Rd b R d/\Only R w b
end Go.Proofs.YtkdimgejdocbbaaGreatDoor.Vp
