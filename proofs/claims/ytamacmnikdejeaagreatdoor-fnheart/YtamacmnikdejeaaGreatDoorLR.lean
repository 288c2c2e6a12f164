import Derived.Test.YtamacmnikdejeaaGreatDoorLM
import Derived.Test.YtamacmnikdejeaaGreatDoorLA
open Go renaming Addr.mk->Q,Value.slice->Y,Obj.cells->N,World->E,Value->ZB
open Option renaming none->Z,some->T
namespace Go.Proofs.YtamacmnikdejeaaGreatDoor.Vp
open RowKit
variable {w V:E}{b f n0 n1 g size n:Nat}{R RT:List TR}{a0 a1:Option Addr}{x:Target}{LS:List Source}{e:TypeId}{f0:Nat->Source}{f1:Nat->Target}
theorem TRow.ac{g:E}{X:Nat}{v:ZB}(h:TRow w b v R)(f:Only X w g)(hX:X<b):TRow g b v R:=by refine⟨fS h.y f hX,λr i=>?_,h.up⟩;obtain⟨h1,⟨F,h2⟩,j,l⟩:=h.u r i;have e:=f.block r.2.1 h1.1 (by omega);exact⟨h1.block f.size e,⟨F,h2.block f.size e⟩,j.block e,l⟩
theorem TRow.more2{n q:E}{c:Nat}{v u:ZB}(h:TRow n f v R)(B:∀r∈R,r.2.1≠g)(m:f<=g)
  (t:n.ownsRow f 146 3 (Y (T (Q g 0 Z)) x.h c) x.h (bV x.u x.h)) (s:q.ownsRow f 125 2 u (R.length+1) (R.flatMap aZ++aZ (x,g,c))) (i:n.grownBy q v.ownBlock):TRow q f u (R++[(x,g,c)]):=by
 have p:∀k,TypeAt n k 146->T k≠v.ownBlock:=λk y e=>eE y (h.type k e.symm) (by decide) rfl;refine⟨by simpa using s,λr j=>?_,?_⟩;{rcases wC.1 j with j|j;{obtain⟨h1,⟨F,h2⟩,l,A⟩:=h.u r j;have e:=i.block r.2.1 h1.1 (p _ l);exact⟨h1.block i.size e,⟨F,h2.block i.size e⟩,l.block e,A⟩};{simp at j;subst j;obtain⟨h1,F,h2⟩:=j8 t;have l:=jf t;have e:=i.block g h1.1 (p _ l);exact⟨h1.block i.size e,⟨F,h2.block i.size e⟩,l.block e,m⟩}};{rw[MN];refine⟨h.up,by simp,λa z b o=>?_⟩;simp at o;subst o;exact B a z}
structure SpG (LS:List Source)(RT:List TR):Prop where
 s:∀x∈LS,x.e.size<=5000/\x.H.size<=5000
 t:∀r∈RT,r.1.e.size<=5000/\(1<=r.1.h/\r.1.h<=200)/\∀j,j<r.1.h->(r.1.u j).s.size<=5000
theorem Fp:SpG [] []:=⟨λ_ h=>absurd h nj,λ_ h=>absurd h nj⟩
theorem SpG.addS (h:SpG LS RT){x:Source}(h1:x.e.size<=5000)(h2:x.H.size<=5000):SpG (LS++[x]) RT:=by
 refine⟨λy b=>?_,h.t⟩;rcases wC.1 b with b|b;{exact h.s y b};{rw[hU.1 b];exact⟨h1,h2⟩}
theorem SpG.addT (h:SpG LS RT){r:TR}(h1:r.1.e.size<=5000)(h2:1<=r.1.h/\r.1.h<=200)(f:∀j,j<r.1.h->(r.1.u j).s.size<=5000):SpG LS (RT++[r]):=by
 refine⟨h.s,λy b=>?_⟩;rcases wC.1 b with b|b;{exact h.t y b};{rw[hU.1 b];exact⟨h1,h2,f⟩}
structure SpB (rb:Nat)(W:E)(v0 v1:ZB)(LS:List Source)(RT:List TR):Prop where
 res:W.heap[rb]?=T (N #[Y Z 0 0,Y Z 0 0] 29 (0,0))
 l:W.heap[rb+1]?=T (N #[v0,v1] 29 (0,0))
 src:W.ownsRow (rb+2) 121 2 v0 LS.length (LS.flatMap bC)
 w:TRow W (rb+2) v1 RT
theorem pO{l:E}{v:ZB}{row:Option Nat}(h:TRow w b v R)(f:w.grownBy l row)(g:∀k,row=T k->TypeAt w k 121):TRow l b v R:=by
 refine⟨h.y.kept f ?_,λr i=>?_,h.up⟩
 ·cases hv:v.ownBlock with
  |none=>exact .inl rfl
  |some k=>exact .inr λe=>eE (h.type k hv) (g k e.symm) (by decide) rfl
 {obtain⟨h1,⟨F,h2⟩,j,n⟩:=h.u r i;have e:=f.block r.2.1 h1.1 (λm=>eE j (g _ m.symm) (by decide) rfl);exact⟨h1.block f.size e,⟨F,h2.block f.size e⟩,j.block e,n⟩}
theorem dY{v:ZB}{l:List ZB}(h:w.ownsRow b e size v n l):∀k,v.ownBlock=T k->TypeAt w k e:=by
 intro k f;rcases h.2 with ⟨rfl,_⟩|⟨g,cap,i,rfl,_,j,_⟩
 {cases f}
 ·cases f
  exact⟨i,j⟩
section
variable {W W':E}{R rb:Nat}{v0 v1:ZB}{LS:List Source}{RT:List TR}
theorem SpB.lt (h:SpB rb W v0 v1 LS RT):rb+1<W.heap.size:=ar h.l
theorem SpB.cells (h:SpB rb W v0 v1 LS RT):W.cell? (Q (rb+1) 0 Z)=T v0/\W.cell? (Q (rb+1) 1 Z)=T v1:=by have hb:=h.l;refine⟨?_,?_⟩<;>simp[World.cell?,hb]
theorem SpB.aa (h:SpB rb W v0 v1 LS RT)(hb:Below W.heap.size W W'):SpB rb W' v0 v1 LS RT :=
 have hl:=h.lt
 ⟨(hb.block rb (by omega)).trans h.res,(hb.block (rb+1) h.lt).trans h.l,own_below h.src hb ly,h.w.aa hb ly⟩
theorem SpB.ac (h:SpB rb W v0 v1 LS RT)(b:Only R W W')(hR:R<rb):SpB rb W' v0 v1 LS RT:=by have hl:=h.lt;exact⟨(b.block rb (by omega) (by omega)).trans h.res,(b.block (rb+1) h.lt (by omega)).trans h.l,fS h.src b (by omega),h.w.ac b (by omega)⟩
theorem Fq (w:E):SpB w.heap.size ((w.alloc (N #[Y Z 0 0,Y Z 0 0] 29)).alloc (N #[Y Z 0 0,Y Z 0 0] 29)) (Y Z 0 0) (Y Z 0 0) [] []:=by
 have hz:(w.alloc (N #[Y Z 0 0,Y Z 0 0] 29)).heap.size=w.heap.size+1:=by simp
 refine⟨?_,?_,CL _ _ _ _,da _ _⟩;{exact(((cM (w.heap.size+1) _).alloc (by rw[hz];exact nX _) _).block w.heap.size (j4 _)).trans (gM w _)};{have h2:=gM (w.alloc (N #[Y Z 0 0,Y Z 0 0] 29)) (N #[Y Z 0 0,Y Z 0 0] 29);rw[hz] at h2;exact h2}
theorem SpB.addS{x:Source}{b:ZB}(h:SpB rb W v0 v1 LS RT)(g:W'.ownsRow (rb+2) 121 2 b (LS.length+1) (LS.flatMap bC++bC x))(i:W.grownBy W' v0.ownBlock):SpB rb (W'.setCell (Q (rb+1) 0 Z) b) b v1 (LS++[x]) RT/\Below (rb+1) W (W'.setCell (Q (rb+1) 0 Z) b):=by
 have hlt:=h.lt;have l:Below (rb+2) W W':=(cM (rb+2) W).grown i (by omega) λk f=>(h.src.lt k f).1;have m:Below (rb+1) W (W'.setCell (Q (rb+1) 0 Z) b):=(l.mono (D0 _)).setCell (p:=(Q (rb+1) 0 Z)) ly b;refine⟨⟨(m.block rb (j4 _)).trans h.res,?_,?_,?_⟩,m⟩;{exact ci ((l.block (rb+1) (j4 _)).trans h.l) b};{have h2:=aE (R:=rb+1) (j:=0) g (j4 _) b;rw[eL,KE];simpa using h2};{exact(pO h.w i λk f=>dY h.src k f).set (j4 _) b}
theorem SpB.addT{c:Nat}{b:ZB}(h:SpB rb W v0 v1 LS RT)(q:∀r∈RT,r.2.1≠g)(n:W.ownsRow (rb+2) 146 3 (Y (T (Q g 0 Z)) x.h c) x.h (bV x.u x.h))
  (i:W'.ownsRow (rb+2) 125 2 b (RT.length+1) (RT.flatMap aZ++aZ (x,g,c))) (f:W.grownBy W' v1.ownBlock):SpB rb (W'.setCell (Q (rb+1) 1 Z) b) v0 b LS (RT++[(x,g,c)])/\Below (rb+1) W (W'.setCell (Q (rb+1) 1 Z) b):=by
 have hlt:=h.lt;have hb:rb+2<=g:=(n.lt g rfl).1;have l:Below (rb+2) W W':=(cM (rb+2) W).grown f (by omega) λk o=>(h.w.y.lt k o).1;have m:Below (rb+1) W (W'.setCell (Q (rb+1) 1 Z) b):=(l.mono (D0 _)).setCell (p:=(Q (rb+1) 1 Z)) ly b;refine⟨⟨(m.block rb (j4 _)).trans h.res,?_,?_,?_⟩,m⟩;{exact ci ((l.block (rb+1) (j4 _)).trans h.l) b}
 ·refine aE (R:=rb+1) (j:=1) (h.src.kept f ?_) (j4 _) b;cases hv:v0.ownBlock with
  |none=>exact .inl rfl
  |some k=>exact .inr λe=>eE (dY h.src k hv) (h.w.type k e.symm) (by decide) rfl
 {exact(h.w.more2 q hb n i f).set (j4 _) b}
end
def Agr (b:Nat)(w V:E):Prop:=w.heap.size<=V.heap.size/\∀k,b<=k->k<w.heap.size->V.heap[k]?=w.heap[k]?
theorem Agr.refl (b:Nat)(w:E):Agr b w w:=⟨nX _,λ_ _ _=>rfl⟩
theorem Agr.trans{v u:E}(h:Agr b w v)(k:Agr b v u):Agr b w u :=
 ⟨nL h.1 k.1,λi h1 h2=>(k.2 i h1 (lj h2 h.1)).trans (h.2 i h1 h2)⟩
theorem Only.agr{R:Nat}(h:Only R w V)(hR:R<b):Agr b w V:=⟨h.size,λk h1 h2=>h.block k h2 (by omega)⟩
theorem dJ{B:Nat}(h:Below B w V)(hB:w.heap.size<=B):Agr b w V:=⟨h.size,λk _ h2=>h.block k (by omega)⟩
theorem Agr.mono (h:Agr b w V)(hb:b<=f):Agr f w V:=⟨h.1,λk h1 h2=>h.2 k (by omega) h2⟩
theorem eO{v:ZB}{j:List ZB}(h:w.ownsRow b e size v n j)(l:Agr b w V):V.ownsRow b e size v n j:=by
 refine⟨h.1,?_⟩;rcases h.2 with h1|⟨g,cap,i,rfl,hb,f,h2⟩
 {exact .inl h1};{exact .inr ⟨g,cap,i,rfl,hb,(l.2 g hb (ar f)).trans f,h2⟩}
theorem TRow.agr{v:ZB}(h:TRow w b v R)(f:Agr b w V):TRow V b v R:=by refine⟨eO h.y f,λr i=>?_,h.up⟩;obtain⟨h1,⟨F,h2⟩,j,g⟩:=h.u r i;have e:=f.2 r.2.1 g h1.1;exact⟨h1.block f.1 e,⟨F,h2.block f.1 e⟩,j.block e,g⟩
structure HSp (base:Nat)(w:E)(a0:Option Addr)(n0:Nat)(f0:Nat->Source)(a1:Option Addr)(n1:Nat)(f1:Nat->Target):Prop where
 sl:∀V,Agr base w V->SlSource V a0 n0 f0/\SlTarget V a1 n1 f1
 hn0:n0<=300
 hn1:n1<=300
 az:∀i,i<n1->(f1 i).h<=300/\∀j,j<(f1 i).h->((f1 i).u j).s.size<=5000
theorem HSp.agr (h:HSp b w a0 n0 f0 a1 n1 f1)(g:Agr b w V):HSp b V a0 n0 f0 a1 n1 f1 :=
 ⟨λZK f=>h.sl ZK (g.trans f),h.hn0,h.hn1,h.az⟩
theorem HSp.mono (h:HSp b w a0 n0 f0 a1 n1 f1)(hb:f<=b):HSp f w a0 n0 f0 a1 n1 f1 :=
 ⟨λZK g=>h.sl ZK (g.mono hb),h.hn0,h.hn1,h.az⟩
theorem fi{c0 c1:Nat}(l:w.ownsRow b 121 2 (Y a0 n0 c0) LS.length (LS.flatMap bC))(g:n0=LS.length)(n:TRow w b (Y a1 n1 c1) RT)(h:n1=RT.length)(o:LS.length<=300)(h1:RT.length<=300)
  (m:∀r∈RT,r.1.h<=300/\∀j,j<r.1.h->(r.1.u j).s.size<=5000):HSp b w a0 n0 (cI LS) a1 n1 (bK (RT.map (·.1))):=by
 subst g h;refine⟨λV f=>⟨ni (eO l f),BP (n.agr f)⟩,o,h1,λi hi=>?_⟩;have e:bK (RT.map (·.1)) i=RT[i].1:=by simp[bK,hi]
 rw[e];exact m _ (gz hi)
def DH (w:E)(R q:Nat)(e:Ending)(b:E):Prop:=∃(a0:Option Addr) (n0 c0:Nat) (f0:Nat->Source) (a1:Option Addr) (n1 c1:Nat) (f1:Nat->Target),e=.returned (.agg #[Y a0 n0 c0,Y a1 n1 c1])/\HSp w.heap.size b a0 n0 f0 a1 n1 f1/\∃f:Nat,f<=q/\Rd b R f/\Only R w b
