import Derived.Test.YtkophfgkcijjkaaGreatDoorYL
import Derived.Test.YtkophfgkcijjkaaGreatDoorYA
namespace Go.Proofs.YtkophfgkcijjkaaGreatDoor.Vp
open RowKit
theorem TRow.only {w d:World}{b X:Nat}{v:Value}{R:List TR}(h:TRow w b v R)(c:Only X w d)(hX:X<b):TRow d b v R:=by refine⟨fh h.own c hX,fun r i=>?_,h.up⟩;obtain⟨f,⟨F,k⟩,g,j⟩:=h.act r i;have e:=c.block r.2.1 f.1 (by omega);exact⟨f.block c.size e,⟨F,k.block c.size e⟩,g.block e,j⟩
theorem TRow.more2 {m q:World}{d g c:Nat}{v u:Value}{R:List TR}{x:Target}(h:TRow m d v R)(A:∀ r∈R,r.2.1≠g)(n:d<=g)
  (y:m.ownsRow d 176 3 (.slice (some ⟨g,0,none⟩) x.actN c) x.actN (bI x.act x.actN)) (t:q.ownsRow d 104 2 u (R.length+1) (R.flatMap aU++aU (x,g,c))) (f:m.grownBy q v.ownBlock):TRow q d u (R++[(x,g,c)]):=by
 have o:∀ k,TypeAt m k 176->some k≠v.ownBlock:=fun k C e=>dU C (h.type k e.symm) (by decide) rfl;refine⟨by simpa using t,fun r i=>?_,?_⟩
 ·rcases List.mem_append.1 i with i | i
  ·obtain⟨l,⟨F,s⟩,j,B⟩:=h.act r i
   have e:=f.block r.2.1 l.1 (o _ j);exact⟨l.block f.size e,⟨F,s.block f.size e⟩,j.block e,B⟩
  ·simp at i
   subst i;obtain⟨l,F,s⟩:=kf y;have j:=ei y;have e:=f.block g l.1 (o _ j);exact⟨l.block f.size e,⟨F,s.block f.size e⟩,j.block e,n⟩
 ·rw[List.pairwise_append]
  refine⟨h.up,by simp,fun a z b p=>?_⟩;simp at p;subst p;exact A a z
structure SpG (LS:List Source)(RT:List TR):Prop where
 s:∀ x∈LS,x.name.size<=5000/\x.text.size<=5000
 t:∀ r∈RT,r.1.name.size<=5000/\(1<=r.1.actN/\r.1.actN<=200)/\∀ j,j<r.1.actN->(r.1.act j).s.size<=5000
theorem yi:SpG [] []:=⟨fun _ h=>absurd h nj,fun _ h=>absurd h nj⟩
theorem SpG.addS {LS:List Source}{RT:List TR}(h:SpG LS RT){x:Source}(c:x.name.size<=5000)(d:x.text.size<=5000):SpG (LS++[x]) RT:=by
 refine⟨fun y b=>?_,h.t⟩;rcases List.mem_append.1 b with b | b
 ·exact h.s y b
 ·rw[List.mem_singleton.1 b];exact⟨c,d⟩
theorem SpG.addT {LS:List Source}{RT:List TR}(h:SpG LS RT){r:TR}(d:r.1.name.size<=5000)(f:1<=r.1.actN/\r.1.actN<=200)(c:∀ j,j<r.1.actN->(r.1.act j).s.size<=5000):SpG LS (RT++[r]):=by
 refine⟨h.s,fun y b=>?_⟩;rcases List.mem_append.1 b with b | b
 ·exact h.t y b
 ·rw[List.mem_singleton.1 b];exact⟨d,f,c⟩
structure SpB (rb:Nat)(W:World)(v0 v1:Value)(LS:List Source)(RT:List TR):Prop where
 res:W.heap[rb]?=some (.cells #[.slice none 0 0,.slice none 0 0] 26 (0,0))
 box:W.heap[rb+1]?=some (.cells #[v0,v1] 26 (0,0))
 src:W.ownsRow (rb+2) 100 2 v0 LS.length (LS.flatMap be)
 tgt:TRow W (rb+2) v1 RT
theorem mo {w i:World}{b:Nat}{v:Value}{R:List TR}{row:Option Nat}(h:TRow w b v R)(c:w.grownBy i row)(f:∀ k,row=some k->TypeAt w k 100):TRow i b v R:=by
 refine⟨h.own.kept c ?_,fun r g=>?_,h.up⟩
 ·cases hv:v.ownBlock with
  | none=>exact .inl rfl
  | some k=>exact .inr fun e=>dU (h.type k hv) (f k e.symm) (by decide) rfl
 ·obtain⟨j,⟨F,m⟩,d,n⟩:=h.act r g
  have e:=c.block r.2.1 j.1 (fun l=>dU d (f _ l.symm) (by decide) rfl);exact⟨j.block c.size e,⟨F,m.block c.size e⟩,d.block e,n⟩
theorem fs {w:World}{b size n:Nat}{e:TypeId}{v:Value}{i:List Value}(h:w.ownsRow b e size v n i):∀ k,v.ownBlock=some k->TypeAt w k e:=by
 intro k d;rcases h.2 with ⟨rfl,_⟩ | ⟨g,cap,c,rfl,_,f,_⟩
 ·cases d
 ·cases d
  exact⟨c,f⟩
section
variable {W W':World}{R rb:Nat}{v0 v1:Value}{LS:List Source}{RT:List TR}
theorem SpB.lt (h:SpB rb W v0 v1 LS RT):rb+1<W.heap.size:=au h.box
theorem SpB.cells (h:SpB rb W v0 v1 LS RT):W.cell? ⟨rb+1,0,none⟩=some v0/\W.cell? ⟨rb+1,1,none⟩=some v1:=by have hb:=h.box;refine⟨?_,?_⟩<;>simp[World.cell?,hb]
theorem SpB.open (h:SpB rb W v0 v1 LS RT):W.frozen? ⟨rb+1,0,none⟩=false/\W.frozen? ⟨rb+1,1,none⟩=false:=by have hb:=h.box;refine⟨?_,?_⟩<;>simp[World.frozen?,hb]
theorem SpB.below (h:SpB rb W v0 v1 LS RT)(hb:Below W.heap.size W W'):SpB rb W' v0 v1 LS RT :=
 have hl:=h.lt
 ⟨(hb.block rb (by omega)).trans h.res,(hb.block (rb+1) h.lt).trans h.box,own_below h.src hb ly,h.tgt.below hb ly⟩
theorem SpB.only (h:SpB rb W v0 v1 LS RT)(b:Only R W W')(hR:R<rb):SpB rb W' v0 v1 LS RT:=by have hl:=h.lt;exact⟨(b.block rb (by omega) (by omega)).trans h.res,(b.block (rb+1) h.lt (by omega)).trans h.box,fh h.src b (by omega),h.tgt.only b (by omega)⟩
theorem yj (w:World):SpB w.heap.size ((w.alloc (.cells #[.slice none 0 0,.slice none 0 0] 26)).alloc (.cells #[.slice none 0 0,.slice none 0 0] 26)) (.slice none 0 0) (.slice none 0 0) [] []:=by
 have hz:(w.alloc (.cells #[.slice none 0 0,.slice none 0 0] 26)).heap.size=w.heap.size+1:=by simp
 refine⟨?_,?_,World.ownsRow_nil _ _ _ _,cL _ _⟩
 ·exact(((Below.refl (w.heap.size+1) _).alloc (by rw[hz];exact Nat.le_refl _) _).block w.heap.size (Nat.lt_succ_self _)).trans (heap_alloc_new w _)
 ·have b:=heap_alloc_new (w.alloc (.cells #[.slice none 0 0,.slice none 0 0] 26)) (.cells #[.slice none 0 0,.slice none 0 0] 26)
  rw[hz] at b;exact b
theorem SpB.addS {x:Source}{b:Value}(h:SpB rb W v0 v1 LS RT)(c:W'.ownsRow (rb+2) 100 2 b (LS.length+1) (LS.flatMap be++be x))(i:W.grownBy W' v0.ownBlock):SpB rb (W'.setCell ⟨rb+1,0,none⟩ b) b v1 (LS++[x]) RT/\Below (rb+1) W (W'.setCell ⟨rb+1,0,none⟩ b):=by
 have hlt:=h.lt;have f:Below (rb+2) W W':=(Below.refl (rb+2) W).grown i (by omega) fun k d=>(h.src.lt k d).1;have g:Below (rb+1) W (W'.setCell ⟨rb+1,0,none⟩ b):=(f.mono (Nat.le_succ _)).setCell (p:=⟨rb+1,0,none⟩) ly b;refine⟨⟨(g.block rb (Nat.lt_succ_self _)).trans h.res,?_,?_,?_⟩,g⟩
 ·exact bG ((f.block (rb+1) (Nat.lt_succ_self _)).trans h.box) b
 ·have l:=aD (R:=rb+1) (j:=0) c (Nat.lt_succ_self _) b
  rw[List.length_append,List.flatMap_append];simpa using l
 ·exact(mo h.tgt i fun k d=>fs h.src k d).set (Nat.lt_succ_self _) b
theorem SpB.addT {x:Target}{g c:Nat}{b:Value}(h:SpB rb W v0 v1 LS RT)(n:∀ r∈RT,r.2.1≠g)(m:W.ownsRow (rb+2) 176 3 (.slice (some ⟨g,0,none⟩) x.actN c) x.actN (bI x.act x.actN))
  (f:W'.ownsRow (rb+2) 104 2 b (RT.length+1) (RT.flatMap aU++aU (x,g,c))) (d:W.grownBy W' v1.ownBlock):SpB rb (W'.setCell ⟨rb+1,1,none⟩ b) v0 b LS (RT++[(x,g,c)])/\Below (rb+1) W (W'.setCell ⟨rb+1,1,none⟩ b):=by
 have hlt:=h.lt;have hb:rb+2<=g:=(m.lt g rfl).1;have l:Below (rb+2) W W':=(Below.refl (rb+2) W).grown d (by omega) fun k o=>(h.tgt.own.lt k o).1;have i:Below (rb+1) W (W'.setCell ⟨rb+1,1,none⟩ b):=(l.mono (Nat.le_succ _)).setCell (p:=⟨rb+1,1,none⟩) ly b;refine⟨⟨(i.block rb (Nat.lt_succ_self _)).trans h.res,?_,?_,?_⟩,i⟩
 ·exact bG ((l.block (rb+1) (Nat.lt_succ_self _)).trans h.box) b
 ·refine aD (R:=rb+1) (j:=1) (h.src.kept d ?_) (Nat.lt_succ_self _) b
  cases hv:v0.ownBlock with
  | none=>exact .inl rfl
  | some k=>exact .inr fun e=>dU (fs h.src k hv) (h.tgt.type k e.symm) (by decide) rfl
 ·exact(h.tgt.more2 n hb m f d).set (Nat.lt_succ_self _) b
end
def Agr (b:Nat)(w V:World):Prop:=w.heap.size<=V.heap.size/\∀ k,b<=k->k<w.heap.size->V.heap[k]?=w.heap[k]?
theorem Agr.refl (b:Nat)(w:World):Agr b w w:=⟨Nat.le_refl _,fun _ _ _=>rfl⟩
theorem Agr.trans {b:Nat}{w v u:World}(h:Agr b w v)(k:Agr b v u):Agr b w u :=
 ⟨Nat.le_trans h.1 k.1,fun i c d=>(k.2 i c (lj d h.1)).trans (h.2 i c d)⟩
theorem Only.agr {R b:Nat}{w V:World}(h:Only R w V)(hR:R<b):Agr b w V:=⟨h.size,fun k h1 c=>h.block k c (by omega)⟩
theorem d9 {b B:Nat}{w V:World}(h:Below B w V)(hB:w.heap.size<=B):Agr b w V:=⟨h.size,fun k _ h2=>h.block k (by omega)⟩
theorem Agr.mono {b c:Nat}{w V:World}(h:Agr b w V)(hb:b<=c):Agr c w V:=⟨h.1,fun k h1 d=>h.2 k (by omega) d⟩
theorem eO {w V:World}{b n size:Nat}{e:TypeId}{v:Value}{c:List Value}(h:w.ownsRow b e size v n c)(i:Agr b w V):V.ownsRow b e size v n c:=by
 refine⟨h.1,?_⟩;rcases h.2 with j | ⟨g,cap,f,rfl,hb,d,k⟩
 ·exact .inl j
 ·exact .inr ⟨g,cap,f,rfl,hb,(i.2 g hb (au d)).trans d,k⟩
theorem TRow.agr {w V:World}{b:Nat}{v:Value}{R:List TR}(h:TRow w b v R)(c:Agr b w V):TRow V b v R:=by refine⟨eO h.own c,fun r i=>?_,h.up⟩;obtain⟨f,⟨F,j⟩,g,d⟩:=h.act r i;have e:=c.2 r.2.1 d f.1;exact⟨f.block c.1 e,⟨F,j.block c.1 e⟩,g.block e,d⟩
structure HSp (base:Nat)(w:World)(a0:Option Addr)(n0:Nat)(f0:Nat->Source)(a1:Option Addr)(n1:Nat)(f1:Nat->Target):Prop where
 sl:∀ V,Agr base w V->SlSource V a0 n0 f0/\SlTarget V a1 n1 f1
 hn0:n0<=300
 hn1:n1<=300
 fit:∀ i,i<n1->(f1 i).actN<=300/\∀ j,j<(f1 i).actN->((f1 i).act j).s.size<=5000
theorem HSp.agr {b:Nat}{w V:World}{a0:Option Addr}{n0:Nat}{f0:Nat->Source}{a1:Option Addr}{n1:Nat}{f1:Nat->Target}(h:HSp b w a0 n0 f0 a1 n1 f1)(c:Agr b w V):HSp b V a0 n0 f0 a1 n1 f1 :=
 ⟨fun U d=>h.sl U (c.trans d),h.hn0,h.hn1,h.fit⟩
theorem HSp.mono {b c:Nat}{w:World}{a0:Option Addr}{n0:Nat}{f0:Nat->Source}{a1:Option Addr}{n1:Nat}{f1:Nat->Target}(h:HSp b w a0 n0 f0 a1 n1 f1)(hb:c<=b):HSp c w a0 n0 f0 a1 n1 f1 :=
 ⟨fun U d=>h.sl U (d.mono hb),h.hn0,h.hn1,h.fit⟩
theorem pQ {w:World}{b n0 c0 n1 c1:Nat}{a0 a1:Option Addr}{LS:List Source}{RT:List TR}(f:w.ownsRow b 100 2 (.slice a0 n0 c0) LS.length (LS.flatMap be))(h:n0=LS.length)(g:TRow w b (.slice a1 n1 c1) RT)(d:n1=RT.length)(k:LS.length<=300)(l:RT.length<=300)
  (m:∀ r∈RT,r.1.actN<=300/\∀ j,j<r.1.actN->(r.1.act j).s.size<=5000):HSp b w a0 n0 (aO LS) a1 n1 (ba (RT.map (·.1))):=by
 subst h d;refine⟨fun V c=>⟨iL (eO f c),lv (g.agr c)⟩,k,l,fun i hi=>?_⟩;have e:ba (RT.map (·.1)) i=RT[i].1:=by simp[ba,hi]
 rw[e];exact m _ (gz hi)
def DH (w:World)(R q:Nat)(e:Ending)(b:World):Prop:=∃ (a0:Option Addr) (n0 c0:Nat) (f0:Nat->Source) (a1:Option Addr) (n1 c1:Nat) (f1:Nat->Target),e=.returned (.agg #[.slice a0 n0 c0,.slice a1 n1 c1])/\HSp w.heap.size b a0 n0 f0 a1 n1 f1/\∃ c:Nat,c<=q/\Rd b R c/\Only R w b
end Go.Proofs.YtkophfgkcijjkaaGreatDoor.Vp
