import Derived.Test.YtpmnbjkjpnclaaaGreatDoorLN
import Derived.Test.YtpmnbjkjpnclaaaGreatDoorLB
open Go renaming Addr.mk->N,Value.slice->Y,Obj.cells->J,World->M,Value->ZB
open Option renaming none->Z,some->T
namespace Go.Proofs.YtpmnbjkjpnclaaaGreatDoor.Vp
open RowKit
variable {w V:M}{b f n0 n1 g size n:Nat}{R RT:List TR}{LS:List Source}{a0 a1:Option Addr}{x:Target}{e:TypeId}{f0:Nat->Source}{f1:Nat->Target}
theorem TRow.ac{g:M}{X:Nat}{v:ZB}(h:TRow w b v R)(f:Only X w g)(hX:X<b):TRow g b v R:=by refine⟨fs h.x f hX,λr j=>?_,h.up⟩;obtain⟨h1,⟨F,h2⟩,i,l⟩:=h.D r j;have e:=f.block r.2.1 h1.1 (by omega);exact⟨h1.block f.size e,⟨F,h2.block f.size e⟩,i.block e,l⟩
theorem TRow.more2{n s:M}{c:Nat}{v u:ZB}(h:TRow n f v R)(A:∀r∈R,r.2.1≠g)(m:f<=g)
  (t:n.ownsRow f 151 3 (Y (T (N g 0 Z)) x.m c) x.m (bX x.D x.m)) (q:s.ownsRow f 146 2 u (R.length+1) (R.flatMap aS++aS (x,g,c))) (i:n.grownBy s v.ownBlock):TRow s f u (R++[(x,g,c)]):=by
 have p:∀k,TypeAt n k 151->T k≠v.ownBlock:=λk y e=>dW y (h.type k e.symm) (by decide) rfl;refine⟨by simpa using q,λr j=>?_,?_⟩;{rcases BC.1 j with j|j;{obtain⟨h1,⟨F,h2⟩,l,z⟩:=h.D r j;have e:=i.block r.2.1 h1.1 (p _ l);exact⟨h1.block i.size e,⟨F,h2.block i.size e⟩,l.block e,z⟩};{simp at j;subst j;obtain⟨h1,F,h2⟩:=jy t;have l:=iK t;have e:=i.block g h1.1 (p _ l);exact⟨h1.block i.size e,⟨F,h2.block i.size e⟩,l.block e,m⟩}};{rw[KT];refine⟨h.up,by simp,λa B b o=>?_⟩;simp at o;subst o;exact A a B}
structure SpG (LS:List Source)(RT:List TR):Prop where
 s:∀x∈LS,x.e.size<=5000/\x.y.size<=5000
 t:∀r∈RT,r.1.e.size<=5000/\(1<=r.1.m/\r.1.m<=200)/\∀j,j<r.1.m->(r.1.D j).s.size<=5000
theorem Dw:SpG [] []:=⟨λ_ h=>absurd h nj,λ_ h=>absurd h nj⟩
theorem SpG.addS (h:SpG LS RT){x:Source}(h1:x.e.size<=5000)(h2:x.y.size<=5000):SpG (LS++[x]) RT:=by
 refine⟨λy b=>?_,h.t⟩;rcases BC.1 b with b|b;{exact h.s y b};{rw[hU.1 b];exact⟨h1,h2⟩}
theorem SpG.addT (h:SpG LS RT){r:TR}(h1:r.1.e.size<=5000)(h2:1<=r.1.m/\r.1.m<=200)(f:∀j,j<r.1.m->(r.1.D j).s.size<=5000):SpG LS (RT++[r]):=by
 refine⟨h.s,λy b=>?_⟩;rcases BC.1 b with b|b;{exact h.t y b};{rw[hU.1 b];exact⟨h1,h2,f⟩}
structure SpB (rb:Nat)(W:M)(v0 v1:ZB)(LS:List Source)(RT:List TR):Prop where
 res:W.heap[rb]?=T (J #[Y Z 0 0,Y Z 0 0] 27 (0,0))
 ab:W.heap[rb+1]?=T (J #[v0,v1] 27 (0,0))
 src:W.ownsRow (rb+2) 142 2 v0 LS.length (LS.flatMap bi)
 j:TRow W (rb+2) v1 RT
theorem oE{j:M}{v:ZB}{row:Option Nat}(h:TRow w b v R)(f:w.grownBy j row)(g:∀k,row=T k->TypeAt w k 142):TRow j b v R:=by
 refine⟨h.x.kept f ?_,λr l=>?_,h.up⟩
 ·cases hv:v.ownBlock with
  |none=>exact .inl rfl
  |some k=>exact .inr λe=>dW (h.type k hv) (g k e.symm) (by decide) rfl
 {obtain⟨h1,⟨F,h2⟩,i,n⟩:=h.D r l;have e:=f.block r.2.1 h1.1 (λm=>dW i (g _ m.symm) (by decide) rfl);exact⟨h1.block f.size e,⟨F,h2.block f.size e⟩,i.block e,n⟩}
theorem dE{v:ZB}{l:List ZB}(h:w.ownsRow b e size v n l):∀k,v.ownBlock=T k->TypeAt w k e:=by
 intro k f;rcases h.2 with ⟨rfl,_⟩|⟨g,cap,i,rfl,_,j,_⟩
 {cases f}
 ·cases f
  exact⟨i,j⟩
section
variable {W W':M}{R rb:Nat}{v0 v1:ZB}{LS:List Source}{RT:List TR}
theorem SpB.lt (h:SpB rb W v0 v1 LS RT):rb+1<W.heap.size:=ar h.ab
theorem SpB.cells (h:SpB rb W v0 v1 LS RT):W.cell? (N (rb+1) 0 Z)=T v0/\W.cell? (N (rb+1) 1 Z)=T v1:=by have hb:=h.ab;refine⟨?_,?_⟩<;>simp[World.cell?,hb]
theorem SpB.aa (h:SpB rb W v0 v1 LS RT)(hb:Below W.heap.size W W'):SpB rb W' v0 v1 LS RT :=
 have hl:=h.lt
 ⟨(hb.block rb (by omega)).trans h.res,(hb.block (rb+1) h.lt).trans h.ab,own_below h.src hb ly,h.j.aa hb ly⟩
theorem SpB.ac (h:SpB rb W v0 v1 LS RT)(b:Only R W W')(hR:R<rb):SpB rb W' v0 v1 LS RT:=by have hl:=h.lt;exact⟨(b.block rb (by omega) (by omega)).trans h.res,(b.block (rb+1) h.lt (by omega)).trans h.ab,fs h.src b (by omega),h.j.ac b (by omega)⟩
theorem Dx (w:M):SpB w.heap.size ((w.alloc (J #[Y Z 0 0,Y Z 0 0] 27)).alloc (J #[Y Z 0 0,Y Z 0 0] 27)) (Y Z 0 0) (Y Z 0 0) [] []:=by
 have hz:(w.alloc (J #[Y Z 0 0,Y Z 0 0] 27)).heap.size=w.heap.size+1:=by simp
 refine⟨?_,?_,ES _ _ _ _,cP _ _⟩;{exact(((cM (w.heap.size+1) _).alloc (by rw[hz];exact nX _) _).block w.heap.size (AD _)).trans (gM w _)};{have h2:=gM (w.alloc (J #[Y Z 0 0,Y Z 0 0] 27)) (J #[Y Z 0 0,Y Z 0 0] 27);rw[hz] at h2;exact h2}
theorem SpB.addS{x:Source}{b:ZB}(h:SpB rb W v0 v1 LS RT)(g:W'.ownsRow (rb+2) 142 2 b (LS.length+1) (LS.flatMap bi++bi x))(l:W.grownBy W' v0.ownBlock):SpB rb (W'.setCell (N (rb+1) 0 Z) b) b v1 (LS++[x]) RT/\Below (rb+1) W (W'.setCell (N (rb+1) 0 Z) b):=by
 have hlt:=h.lt;have i:Below (rb+2) W W':=(cM (rb+2) W).grown l (by omega) λk f=>(h.src.lt k f).1;have m:Below (rb+1) W (W'.setCell (N (rb+1) 0 Z) b):=(i.mono (JH _)).setCell (p:=(N (rb+1) 0 Z)) ly b;refine⟨⟨(m.block rb (AD _)).trans h.res,?_,?_,?_⟩,m⟩;{exact bJ ((i.block (rb+1) (AD _)).trans h.ab) b};{have h2:=aO (R:=rb+1) (j:=0) g (AD _) b;rw[eL,JA];simpa using h2};{exact(oE h.j l λk f=>dE h.src k f).set (AD _) b}
theorem SpB.addT{c:Nat}{b:ZB}(h:SpB rb W v0 v1 LS RT)(q:∀r∈RT,r.2.1≠g)(l:W.ownsRow (rb+2) 151 3 (Y (T (N g 0 Z)) x.m c) x.m (bX x.D x.m))
  (f:W'.ownsRow (rb+2) 146 2 b (RT.length+1) (RT.flatMap aS++aS (x,g,c))) (i:W.grownBy W' v1.ownBlock):SpB rb (W'.setCell (N (rb+1) 1 Z) b) v0 b LS (RT++[(x,g,c)])/\Below (rb+1) W (W'.setCell (N (rb+1) 1 Z) b):=by
 have hlt:=h.lt;have hb:rb+2<=g:=(l.lt g rfl).1;have m:Below (rb+2) W W':=(cM (rb+2) W).grown i (by omega) λk o=>(h.j.x.lt k o).1;have n:Below (rb+1) W (W'.setCell (N (rb+1) 1 Z) b):=(m.mono (JH _)).setCell (p:=(N (rb+1) 1 Z)) ly b;refine⟨⟨(n.block rb (AD _)).trans h.res,?_,?_,?_⟩,n⟩;{exact bJ ((m.block (rb+1) (AD _)).trans h.ab) b}
 ·refine aO (R:=rb+1) (j:=1) (h.src.kept i ?_) (AD _) b;cases hv:v0.ownBlock with
  |none=>exact .inl rfl
  |some k=>exact .inr λe=>dW (dE h.src k hv) (h.j.type k e.symm) (by decide) rfl
 {exact(h.j.more2 q hb l f i).set (AD _) b}
end
def Agr (b:Nat)(w V:M):Prop:=w.heap.size<=V.heap.size/\∀k,b<=k->k<w.heap.size->V.heap[k]?=w.heap[k]?
theorem Agr.refl (b:Nat)(w:M):Agr b w w:=⟨nX _,λ_ _ _=>rfl⟩
theorem Agr.trans{v u:M}(h:Agr b w v)(k:Agr b v u):Agr b w u :=
 ⟨nD h.1 k.1,λi h1 h2=>(k.2 i h1 (lj h2 h.1)).trans (h.2 i h1 h2)⟩
theorem Only.agr{R:Nat}(h:Only R w V)(hR:R<b):Agr b w V:=⟨h.size,λk h1 h2=>h.block k h2 (by omega)⟩
theorem fF{B:Nat}(h:Below B w V)(hB:w.heap.size<=B):Agr b w V:=⟨h.size,λk _ h2=>h.block k (by omega)⟩
theorem Agr.mono (h:Agr b w V)(hb:b<=f):Agr f w V:=⟨h.1,λk h1 h2=>h.2 k (by omega) h2⟩
theorem d9{v:ZB}{j:List ZB}(h:w.ownsRow b e size v n j)(l:Agr b w V):V.ownsRow b e size v n j:=by
 refine⟨h.1,?_⟩;rcases h.2 with h1|⟨g,cap,f,rfl,hb,i,h2⟩
 {exact .inl h1};{exact .inr ⟨g,cap,f,rfl,hb,(l.2 g hb (ar i)).trans i,h2⟩}
theorem TRow.agr{v:ZB}(h:TRow w b v R)(f:Agr b w V):TRow V b v R:=by refine⟨d9 h.x f,λr j=>?_,h.up⟩;obtain⟨h1,⟨F,h2⟩,i,g⟩:=h.D r j;have e:=f.2 r.2.1 g h1.1;exact⟨h1.block f.1 e,⟨F,h2.block f.1 e⟩,i.block e,g⟩
structure HSp (base:Nat)(w:M)(a0:Option Addr)(n0:Nat)(f0:Nat->Source)(a1:Option Addr)(n1:Nat)(f1:Nat->Target):Prop where
 sl:∀V,Agr base w V->SlSource V a0 n0 f0/\SlTarget V a1 n1 f1
 hn0:n0<=300
 hn1:n1<=300
 az:∀i,i<n1->(f1 i).m<=300/\∀j,j<(f1 i).m->((f1 i).D j).s.size<=5000
theorem HSp.agr (h:HSp b w a0 n0 f0 a1 n1 f1)(g:Agr b w V):HSp b V a0 n0 f0 a1 n1 f1 :=
 ⟨λZK f=>h.sl ZK (g.trans f),h.hn0,h.hn1,h.az⟩
theorem HSp.mono (h:HSp b w a0 n0 f0 a1 n1 f1)(hb:f<=b):HSp f w a0 n0 f0 a1 n1 f1 :=
 ⟨λZK g=>h.sl ZK (g.mono hb),h.hn0,h.hn1,h.az⟩
theorem eE{c0 c1:Nat}(n:w.ownsRow b 142 2 (Y a0 n0 c0) LS.length (LS.flatMap bi))(o:n0=LS.length)(h:TRow w b (Y a1 n1 c1) RT)(g:n1=RT.length)(m:LS.length<=300)(h1:RT.length<=300)
  (l:∀r∈RT,r.1.m<=300/\∀j,j<r.1.m->(r.1.D j).s.size<=5000):HSp b w a0 n0 (bY LS) a1 n1 (bD (RT.map (·.1))):=by
 subst o g;refine⟨λV f=>⟨lU (d9 n f),Ab (h.agr f)⟩,m,h1,λi hi=>?_⟩;have e:bD (RT.map (·.1)) i=RT[i].1:=by simp[bD,hi]
 rw[e];exact l _ (gz hi)
def DH (w:M)(R q:Nat)(e:Ending)(b:M):Prop:=∃(a0:Option Addr) (n0 c0:Nat) (f0:Nat->Source) (a1:Option Addr) (n1 c1:Nat) (f1:Nat->Target),e=.returned (.agg #[Y a0 n0 c0,Y a1 n1 c1])/\HSp w.heap.size b a0 n0 f0 a1 n1 f1/\∃f:Nat,f<=q/\Rd b R f/\Only R w b
