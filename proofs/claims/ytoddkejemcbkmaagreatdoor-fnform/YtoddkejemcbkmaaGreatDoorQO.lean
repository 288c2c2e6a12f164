import Derived.Test.YtoddkejemcbkmaaGreatDoorRZ
import Derived.Test.YtoddkejemcbkmaaGreatDoorRH
open Go renaming Addr.mk->Q,Value.slice->Z,Value.string->U,Value.int->J,Obj.cells->N,IntKind.i64->I,World->M,Value->ZC,TypeId->ZH
open Option renaming none->Y,some->T
namespace Go.Proofs.YtoddkejemcbkmaaGreatDoor.Vp
open RowKit
variable {w V:M}{base X c size n0 n1 j B g n lo base':Nat}{e t:ZH}{a0 a1:Option Addr}{R RT:List TR}{x:Target}{LS:List Source}{r:TR}{b:ZC}{f0:Nat->Source}{f1:Nat->Target}{L:List I3}
theorem TRow.F{c:M}{v:ZC}(h:TRow w base v R)(b:Only X w c)(hX:X<base):TRow c base v R:=by refine⟨gj h.i b hX,λr f=>?_,h.up⟩;obtain⟨h1,⟨F,h2⟩,h3,h4⟩:=h.G r f;have e:=b.block r.2.1 h1.1 (by omega);exact⟨h1.block b.size e,⟨F,h2.block b.size e⟩,h3.block e,h4⟩
theorem TRow.more2{l p:M}{v s:ZC}(h:TRow l base v R)(u:∀r∈R,r.2.1≠g)(j:base<=g)
  (q:l.ownsRow base 90 3 (Z (T (Q g 0 Y)) x.f c) x.f (bH x.G x.f)) (o:p.ownsRow base 125 2 s (R.length+1) (R.flatMap bi++bi (x,g,c))) (f:l.grownBy p v.ownBlock):TRow p base s (R++[(x,g,c)]):=by
 have m:∀k,TypeAt l k 90->T k≠v.ownBlock:=λk y e=>iw y (h.type k e.symm) (by decide) rfl;refine⟨by simpa using o,λr i=>?_,?_⟩;{rcases p8.1 i with i|i;{obtain⟨h1,⟨F,h2⟩,h3,h4⟩:=h.G r i;have e:=f.block r.2.1 h1.1 (m _ h3);exact⟨h1.block f.size e,⟨F,h2.block f.size e⟩,h3.block e,h4⟩};{simp at i;subst i;obtain⟨h1,F,h2⟩:=nC q;have h3:=lJ q;have e:=f.block g h1.1 (m _ h3);exact⟨h1.block f.size e,⟨F,h2.block f.size e⟩,h3.block e,j⟩}};{rw[NI];refine⟨h.up,by simp,λa t b n=>?_⟩;simp at n;subst n;exact u a t}
structure SpG (LS:List Source)(RT:List TR):Prop where
 s:∀x∈LS,x.e.size<=5000/\x.h.size<=5000
 t:∀r∈RT,r.1.e.size<=5000/\(1<=r.1.f/\r.1.f<=200)/\∀j,j<r.1.f->(r.1.G j).s.size<=5000
theorem GH:SpG [] []:=⟨λ_ h=>absurd h nj,λ_ h=>absurd h nj⟩
theorem SpG.addS (h:SpG LS RT){x:Source}(h1:x.e.size<=5000)(h2:x.h.size<=5000):SpG (LS++[x]) RT:=by
 refine⟨λy b=>?_,h.t⟩;rcases p8.1 b with b|b;{exact h.s y b};{rw[nL.1 b];exact⟨h1,h2⟩}
theorem SpG.addT (h:SpG LS RT)(h1:r.1.e.size<=5000)(h2:1<=r.1.f/\r.1.f<=200)(h3:∀j,j<r.1.f->(r.1.G j).s.size<=5000):SpG LS (RT++[r]):=by
 refine⟨h.s,λy b=>?_⟩;rcases p8.1 b with b|b;{exact h.t y b};{rw[nL.1 b];exact⟨h1,h2,h3⟩}
structure SpB (rb:Nat)(W:M)(v0 v1:ZC)(LS:List Source)(RT:List TR):Prop where
 res:W.heap[rb]?=T (N #[Z Y 0 0,Z Y 0 0] 44 (0,0))
 H:W.heap[rb+1]?=T (N #[v0,v1] 44 (0,0))
 src:W.ownsRow (rb+2) 122 2 v0 LS.length (LS.flatMap bI)
 K:TRow W (rb+2) v1 RT
theorem zd{f:M}{v:ZC}{row:Option Nat}(h:TRow w base v R)(b:w.grownBy f row)(c:∀k,row=T k->TypeAt w k 122):TRow f base v R:=by
 refine⟨h.i.kept b ?_,λr g=>?_,h.up⟩
 ·cases hv:v.ownBlock with
  |none=>exact .inl rfl
  |some k=>exact .inr λe=>iw (h.type k hv) (c k e.symm) (by decide) rfl
 {obtain⟨h1,⟨F,h2⟩,h3,h4⟩:=h.G r g;have e:=b.block r.2.1 h1.1 (λi=>iw h3 (c _ i.symm) (by decide) rfl);exact⟨h1.block b.size e,⟨F,h2.block b.size e⟩,h3.block e,h4⟩}
theorem mZ{v:ZC}{i:List ZC}(h:w.ownsRow base e size v n i):∀k,v.ownBlock=T k->TypeAt w k e:=by
 intro k b;rcases h.2 with ⟨rfl,_⟩|⟨g,cap,c,rfl,_,f,_⟩
 {cases b}
 ·cases b
  exact⟨c,f⟩
section
variable {W W':M}{R rb:Nat}{v0 v1:ZC}{LS:List Source}{RT:List TR}
theorem SpB.lt (h:SpB rb W v0 v1 LS RT):rb+1<W.heap.size:=ah h.H
theorem SpB.cells (h:SpB rb W v0 v1 LS RT):W.cell? (Q (rb+1) 0 Y)=T v0/\W.cell? (Q (rb+1) 1 Y)=T v1:=by have hb:=h.H;refine⟨?_,?_⟩<;>simp[World.cell?,hb]
theorem SpB.aa (h:SpB rb W v0 v1 LS RT)(hb:Below W.heap.size W W'):SpB rb W' v0 v1 LS RT :=
 have hl:=h.lt
 ⟨(hb.block rb (by omega)).trans h.res,(hb.block (rb+1) h.lt).trans h.H,own_below h.src hb ly,h.K.aa hb ly⟩
theorem SpB.F (h:SpB rb W v0 v1 LS RT)(b:Only R W W')(hR:R<rb):SpB rb W' v0 v1 LS RT:=by have hl:=h.lt;exact⟨(b.block rb (by omega) (by omega)).trans h.res,(b.block (rb+1) h.lt (by omega)).trans h.H,gj h.src b (by omega),h.K.F b (by omega)⟩
theorem GI (w:M):SpB w.heap.size ((w.alloc (N #[Z Y 0 0,Z Y 0 0] 44)).alloc (N #[Z Y 0 0,Z Y 0 0] 44)) (Z Y 0 0) (Z Y 0 0) [] []:=by
 have hz:(w.alloc (N #[Z Y 0 0,Z Y 0 0] 44)).heap.size=w.heap.size+1:=by simp
 refine⟨?_,?_,AT _ _ _ _,dd _ _⟩;{exact(((eL (w.heap.size+1) _).alloc (by rw[hz];exact n8 _) _).block w.heap.size (AI _)).trans (n6 w _)};{have h2:=n6 (w.alloc (N #[Z Y 0 0,Z Y 0 0] 44)) (N #[Z Y 0 0,Z Y 0 0] 44);rw[hz] at h2;exact h2}
theorem SpB.addS{x:Source}(h:SpB rb W v0 v1 LS RT)(f:W'.ownsRow (rb+2) 122 2 b (LS.length+1) (LS.flatMap bI++bI x))(g:W.grownBy W' v0.ownBlock):SpB rb (W'.setCell (Q (rb+1) 0 Y) b) b v1 (LS++[x]) RT/\Below (rb+1) W (W'.setCell (Q (rb+1) 0 Y) b):=by
 have hlt:=h.lt;have i:Below (rb+2) W W':=(eL (rb+2) W).grown g (by omega) λk c=>(h.src.lt k c).1;have l:Below (rb+1) W (W'.setCell (Q (rb+1) 0 Y) b):=(i.mono (F3 _)).setCell (p:=(Q (rb+1) 0 Y)) ly b;refine⟨⟨(l.block rb (AI _)).trans h.res,?_,?_,?_⟩,l⟩;{exact cy ((i.block (rb+1) (AI _)).trans h.H) b};{have h2:=aP (R:=rb+1) (j:=0) f (AI _) b;rw[cM,BM];simpa using h2};{exact(zd h.K g λk c=>mZ h.src k c).set (AI _) b}
theorem SpB.addT (h:SpB rb W v0 v1 LS RT)(o:∀r∈RT,r.2.1≠g)(l:W.ownsRow (rb+2) 90 3 (Z (T (Q g 0 Y)) x.f c) x.f (bH x.G x.f))
  (i:W'.ownsRow (rb+2) 125 2 b (RT.length+1) (RT.flatMap bi++bi (x,g,c))) (f:W.grownBy W' v1.ownBlock):SpB rb (W'.setCell (Q (rb+1) 1 Y) b) v0 b LS (RT++[(x,g,c)])/\Below (rb+1) W (W'.setCell (Q (rb+1) 1 Y) b):=by
 have hlt:=h.lt;have hb:rb+2<=g:=(l.lt g rfl).1;have m:Below (rb+2) W W':=(eL (rb+2) W).grown f (by omega) λk q=>(h.K.i.lt k q).1;have n:Below (rb+1) W (W'.setCell (Q (rb+1) 1 Y) b):=(m.mono (F3 _)).setCell (p:=(Q (rb+1) 1 Y)) ly b;refine⟨⟨(n.block rb (AI _)).trans h.res,?_,?_,?_⟩,n⟩;{exact cy ((m.block (rb+1) (AI _)).trans h.H) b}
 ·refine aP (R:=rb+1) (j:=1) (h.src.kept f ?_) (AI _) b;cases hv:v0.ownBlock with
  |none=>exact .inl rfl
  |some k=>exact .inr λe=>iw (mZ h.src k hv) (h.K.type k e.symm) (by decide) rfl
 {exact(h.K.more2 o hb l i f).set (AI _) b}
end
def Agr (base:Nat)(w V:M):Prop:=w.heap.size<=V.heap.size/\∀k,base<=k->k<w.heap.size->V.heap[k]?=w.heap[k]?
theorem Agr.refl (base:Nat)(w:M):Agr base w w:=⟨n8 _,λ_ _ _=>rfl⟩
theorem Agr.trans{v u:M}(h:Agr base w v)(k:Agr base v u):Agr base w u :=
 ⟨p9 h.1 k.1,λi h1 h2=>(k.2 i h1 (lj h2 h.1)).trans (h.2 i h1 h2)⟩
theorem Only.agr{R:Nat}(h:Only R w V)(hR:R<base):Agr base w V:=⟨h.size,λk h1 h2=>h.block k h2 (by omega)⟩
theorem fc (h:Below B w V)(hB:w.heap.size<=B):Agr base w V:=⟨h.size,λk _ h2=>h.block k (by omega)⟩
theorem Agr.mono{b:Nat}(h:Agr b w V)(hb:b<=c):Agr c w V:=⟨h.1,λk h1 h2=>h.2 k (by omega) h2⟩
theorem iE{v:ZC}{c:List ZC}(h:w.ownsRow base e size v n c)(i:Agr base w V):V.ownsRow base e size v n c:=by
 refine⟨h.1,?_⟩;rcases h.2 with h1|⟨g,cap,f,rfl,hb,b,h2⟩
 {exact .inl h1};{exact .inr ⟨g,cap,f,rfl,hb,(i.2 g hb (ah b)).trans b,h2⟩}
theorem TRow.agr{v:ZC}(h:TRow w base v R)(b:Agr base w V):TRow V base v R:=by refine⟨iE h.i b,λr c=>?_,h.up⟩;obtain⟨h1,⟨F,h2⟩,h3,h4⟩:=h.G r c;have e:=b.2 r.2.1 h4 h1.1;exact⟨h1.block b.1 e,⟨F,h2.block b.1 e⟩,h3.block e,h4⟩
structure HSp (base:Nat)(w:M)(a0:Option Addr)(n0:Nat)(f0:Nat->Source)(a1:Option Addr)(n1:Nat)(f1:Nat->Target):Prop where
 sl:∀V,Agr base w V->SlSource V a0 n0 f0/\SlTarget V a1 n1 f1
 hn0:n0<=300
 hn1:n1<=300
 ak:∀i,i<n1->(f1 i).f<=300/\∀j,j<(f1 i).f->((f1 i).G j).s.size<=5000
theorem HSp.agr (h:HSp base w a0 n0 f0 a1 n1 f1)(b:Agr base w V):HSp base V a0 n0 f0 a1 n1 f1 :=
 ⟨λZK c=>h.sl ZK (b.trans c),h.hn0,h.hn1,h.ak⟩
theorem HSp.mono{b:Nat}(h:HSp b w a0 n0 f0 a1 n1 f1)(hb:c<=b):HSp c w a0 n0 f0 a1 n1 f1 :=
 ⟨λZK f=>h.sl ZK (f.mono hb),h.hn0,h.hn1,h.ak⟩
theorem uB{c0 c1:Nat}(f:w.ownsRow base 122 2 (Z a0 n0 c0) LS.length (LS.flatMap bI))(c:n0=LS.length)(g:TRow w base (Z a1 n1 c1) RT)(h:n1=RT.length)(l:LS.length<=300)(h1:RT.length<=300)
  (m:∀r∈RT,r.1.f<=300/\∀j,j<r.1.f->(r.1.G j).s.size<=5000):HSp base w a0 n0 (da LS) a1 n1 (bY (RT.map (·.1))):=by
 subst c h;refine⟨λV b=>⟨xo (iE f b),Dy (g.agr b)⟩,l,h1,λi hi=>?_⟩;have e:bY (RT.map (·.1)) i=RT[i].1:=by simp[bY,hi]
 rw[e];exact m _ (gz hi)
theorem uC (L:List I3):i3L L=bH (dh L) L.length:=by
 have e:(List.range L.length).map (dh L)=L.map λx=>(⟨x.1,⟨x.2.1.toArray⟩,x.2.2⟩:Ins):=by
  refine List.ext_getElem (by simp) λi h1 h2=>?_;have hi:i<L.length:=by simpa using h2
  simp[dh,hi]
 rw[bH,e,T3];rfl
structure PrG (base:Nat)(W:M)(RT:List TR)(b g c n:Nat)(f:Nat->Ins):Prop where
 ab:PB W b (Z (T (Q g 0 Y)) n c)
 i:W.ownsRow base 90 3 (Z (T (Q g 0 Y)) n c) n (bH f n)
 new:∀r∈RT,r.2.1≠g
 lo:base<=b
 num:1<=n/\n<=200
 sz:∀j,j<n->(f j).s.size<=5000
section
variable {W W':M}{base R b g c n:Nat}{f:Nat->Ins}{RT:List TR}
theorem PrG.aa (h:PrG base W RT b g c n f)(hb:Below B W W')(i:W.heap.size<=B):PrG base W' RT b g c n f :=
 ⟨h.ab.aa hb (lj h.ab.lt i),own_below h.i hb i,h.new,h.lo,h.num,h.sz⟩
theorem PrG.F (h:PrG base W RT b g c n f)(i:Only R W W')(hR:R<base):PrG base W' RT b g c n f :=
 ⟨(i.block b h.ab.lt (by have:=h.lo;omega)).trans h.ab,gj h.i i hR,h.new,h.lo,h.num,h.sz⟩
theorem TRow.ltg{v:ZC}{R:List TR}(h:TRow w base v R):∀r∈R,r.2.1<w.heap.size:=λr b=>(h.G r b).1.1
theorem TRow.atk{k:Nat}{R:List TR}{a:Option Addr}(h:TRow w base (Z a R.length c) R)(l:k<R.length):∃(b:Nat) (r:TR),a=T (Q b 0 Y)/\b<w.heap.size/\r∈R/\w.cell? (Q b (k*2) Y)=T (U r.1.e)/\w.cell? (Q b (k*2+1) Y)=T (Z (T (Q r.2.1 0 Y)) r.1.f r.2.2)/\SlIns w (T (Q r.2.1 0 Y)) r.1.f r.1.G:=by
 obtain⟨g,c',e⟩:=fk h.i (by omega);simp at e;obtain⟨rfl,rfl⟩:=e;obtain⟨r,f,i⟩:=xp l;refine⟨g,r,rfl,(dL h.i).2,i,?_,?_,(h.G r i).1.sl⟩;{exact(cO h.i (j:=k*2) (u:=U r.1.e) (by have:=dr bi 2 (λ_=>rfl) R k 0 (by omega) _ f;simpa[bi] using this)).1};{exact(cO h.i (j:=k*2+1) (u:=Z (T (Q r.2.1 0 Y)) r.1.f r.2.2) (by have:=dr bi 2 (λ_=>rfl) R k 1 (by omega) _ f;simpa[bi] using this)).1}
theorem me (c:∀i∈L,i.2.1.length<=5000):∀j,j<L.length->(dh L j).s.size<=5000:=by
 intro j b;have e:dh L j=⟨L[j].1,⟨L[j].2.1.toArray⟩,L[j].2.2⟩:=by simp[dh,b]
 rw[e];show L[j].2.1.toArray.size<=5000;simpa using c _ (gz b)
theorem Bf (f:IR W lo g c L)(h:base<=lo)(b:∀r∈RT,r.2.1<lo)(l:base<=W.heap.size)(h1:1<=L.length/\L.length<=200)(m:∀i∈L,i.2.1.length<=5000):PrG base (W.alloc (N #[Z (T (Q g 0 Y)) L.length c] 59)) RT W.heap.size g c L.length (dh L):=by
 have hg:=f.lt;refine⟨n6 W _,?_,λr j e=>by have:=b r j;omega,l,h1,me m⟩;have h2:W.ownsRow base 90 3 (Z (T (Q g 0 Y)) L.length c) L.length (bH (dh L) L.length):=by rw[<-uC];exact aC f h
 exact own_below h2 ((q9 W).alloc ly _) ly
theorem PrG.put{l c2 i:Nat}{p:Nat->Ins}(h:PrG base W RT b g c n f)(q:W.ownsRow lo 90 3 (Z (T (Q l 0 Y)) i c2) i (bH p i))(A:base<=lo)(o:∀r∈RT,r.2.1<lo)(h1:1<=i/\i<=200)(B:∀j,j<i->(p j).s.size<=5000):PrG base (W.setCell (Q b 0 Y) (Z (T (Q l 0 Y)) i c2)) RT b l c2 i p:=by
 have t:=(P6 q l rfl).1;refine⟨h.ab.set _,?_,λr C e=>by have:=o r C;omega,h.lo,h1,B⟩;have u:b≠l:=by intro e;subst e;obtain⟨m,t⟩:=lJ q;have:=h.ab.symm.trans t;cases this
 refine aC ?_ A;rcases q with ⟨z,h2|⟨D,cap,m,y,hb,x,h3⟩⟩;{exact⟨z,.inl h2⟩}
 ·refine⟨z,.inr ⟨D,cap,m,y,hb,?_,h3⟩⟩;cases y
  exact(qh W (Q b 0 Y) _ l (λe=>u e.symm)).trans x
theorem SpB.putP{rb:Nat}{v0 v1:ZC}{v:ZC}(h:SpB rb W v0 v1 LS RT)(A:PB W b v)(hb:rb+2<=b)(u:ZC):SpB rb (W.setCell (Q b 0 Y) u) v0 v1 LS RT:=by
 have far:∀k,k≠b->(W.setCell (Q b 0 Y) u).heap[k]?=W.heap[k]?:=λk p=>qh W (Q b 0 Y) u k (by simpa using p);have j:W.heap.size<=(W.setCell (Q b 0 Y) u).heap.size:=by simp[World.setCell]
 have g:∀k e,TypeAt W k e->e≠59->k≠b:=by
  intro k e ⟨f,p⟩ m o;subst o;have:=A.symm.trans p;cases this
  exact m rfl
 have c:∀{e:ZH} {size n:Nat} {x:ZC} {l:List ZC},W.ownsRow (rb+2) e size x n l->e≠59->(W.setCell (Q b 0 Y) u).ownsRow (rb+2) e size x n l:=by
  intro e size n x l z m;rcases z with ⟨t,h2|⟨q,cap,f,o,s,i,h3⟩⟩;{exact⟨t,.inl h2⟩};{exact⟨t,.inr ⟨q,cap,f,o,s,(far q (g q e ⟨f,i⟩ m)).trans i,h3⟩⟩}
 refine⟨(far rb (by omega)).trans h.res,(far (rb+1) (by omega)).trans h.H,c h.src (by decide),c h.K.i (by decide),λr y=>?_,h.K.up⟩;obtain⟨h1,⟨F,h2⟩,h3,h4⟩:=h.K.G r y;have e:=far r.2.1 (g r.2.1 90 h3 (by decide));exact⟨h1.block j e,⟨F,h2.block j e⟩,h3.block e,h4⟩
def Il (nm tx:ByteArray)(z:Int)(i:Nat):Ins:=([⟨1,nm,0⟩,⟨12,⟨#[]⟩,0⟩,⟨1,tx,0⟩,⟨2,⟨#[]⟩,0⟩,⟨3,⟨#[]⟩,z⟩,⟨15,⟨#[]⟩,0⟩]:List Ins).getD i ⟨0,⟨#[]⟩,0⟩
theorem Bg{nm tx:ByteArray}{z:Int}(h1:nm.size<=5000)(h2:tx.size<=5000):∀j,j<6->(Il nm tx z j).s.size<=5000:=by
 have b:(⟨#[]⟩:ByteArray).size<=5000:=E4 _;intro j c;match j,c with
 |0,_=>exact h1
 |1,_=>exact b
 |2,_=>exact h2
 |3,_=>exact b
 |4,_=>exact b
 |5,_=>exact b
 |k+6,h=>exact absurd h (by omega)
abbrev qL (nm tx:ByteArray)(z:Int):Array ZC:=#[J I 1,U nm,J I 0,J I 12,U ⟨#[]⟩,J I 0,J I 1,U tx,J I 0,J I 2,U ⟨#[]⟩,J I 0,J I 3,U ⟨#[]⟩,J I z,J I 15,U ⟨#[]⟩,J I 0]
theorem PrG.six (h:PrG base W RT b g c n f)(i:∀r∈RT,r.2.1<W.heap.size)(l:base<=W.heap.size)(nm tx:ByteArray)(z:Int)(h1:nm.size<=5000)(h2:tx.size<=5000):PrG base ((W.setCell (Q b 0 Y) (Z (T (Q W.heap.size 0 Y)) 6 6)).alloc (N (qL nm tx z) 90)) RT b W.heap.size 6 6 (Il nm tx z):=by
 have hz:(W.setCell (Q b 0 Y) (Z (T (Q W.heap.size 0 Y)) 6 6)).heap.size=W.heap.size:=by simp
 have A:=(eL W.heap.size (W.setCell (Q b 0 Y) (Z (T (Q W.heap.size 0 Y)) 6 6))).alloc (by rw[hz];exact n8 _) (N (qL nm tx z) 90);refine⟨(h.ab.set _).aa A h.ab.lt,?_,λr j e=>by have:=i r j;omega,h.lo,⟨by omega,by omega⟩,Bg h1 h2⟩;have h3:=n6 (W.setCell (Q b 0 Y) (Z (T (Q W.heap.size 0 Y)) 6 6)) (N (qL nm tx z) 90);rw[hz] at h3;exact⟨rfl,.inr ⟨W.heap.size,6,qL nm tx z,rfl,l,h3,n8 _,by unfold maxLen;omega,rfl,rfl⟩⟩
end
theorem ig{v:ZC}{c:List ZC}{m:Array ZC}{fz:Nat × Nat}(h:w.ownsRow base e size v n c)(hX:w.heap[X]?=T (N m t fz))(p:t≠e)(u:ZC):(w.setCell (Q X j Y) u).ownsRow base e size v n c:=by
 rcases h with ⟨f,h2|⟨g,cap,i,o,hb,b,h3⟩⟩;{exact⟨f,.inl h2⟩}
 ·refine⟨f,.inr ⟨g,cap,i,o,hb,(qh w (Q X j Y) u g ?_).trans b,h3⟩⟩;intro l;obtain rfl:g=X:=l;have:=hX.symm.trans b;cases this
  exact p rfl
theorem ww{v:ZC}{c:Array ZC}{fz:Nat × Nat}(h:TRow w base v R)(hX:w.heap[X]?=T (N c t fz))(f:t≠125)(hi:t≠90)(u:ZC):TRow (w.setCell (Q X j Y) u) base v R:=by
 refine⟨ig h.i hX f u,λr g=>?_,h.up⟩;obtain⟨h1,⟨F,h2⟩,h3,h4⟩:=h.G r g
 have e:(w.setCell (Q X j Y) u).heap[r.2.1]?=w.heap[r.2.1]?:=qh w (Q X j Y) u r.2.1 (by
  intro b;obtain rfl:r.2.1=X:=b;obtain⟨cur,i⟩:=h3;have:=hX.symm.trans i;cases this
  exact hi rfl)
 exact⟨h1.block (by simp) e,⟨F,h2.block (by simp) e⟩,h3.block e,h4⟩
theorem od{c:M}{v:ZC}{b:Array ZC}{fz:Nat × Nat}(f:w.grownBy c v.ownBlock)(i:∀k,v.ownBlock=T k->TypeAt w k e)(hX:w.heap[X]?=T (N b t fz))(g:t≠e):c.heap[X]?=T (N b t fz):=by
 refine(f.block X (ah hX) λh=>?_).trans hX;obtain⟨cur,j⟩:=i X h.symm;have:=hX.symm.trans j;cases this
 exact g rfl
def GX (RT:List TR):Prop:=∀r∈RT,r.1.f<=300/\∀j,j<r.1.f->(r.1.G j).s.size<=5000
theorem GX.add (h:GX RT)(h1:r.1.f<=300)(h2:∀j,j<r.1.f->(r.1.G j).s.size<=5000):GX (RT++[r]):=by
 intro y b;rcases p8.1 b with b|b;{exact h y b};{rw[nL.1 b];exact⟨h1,h2⟩}
def lsI (L:List Ins)(i:Nat):Ins:=L.getD i ⟨0,⟨#[]⟩,0⟩
theorem Er{L:List Ins}(h:∀x∈L,x.s.size<=5000):∀j,j<L.length->(lsI L j).s.size<=5000:=by
 intro j b;have e:lsI L j=L[j]:=by simp[lsI,b]
 rw[e];exact h _ (gz b)
theorem Es{z:Nat}(hz:w.heap.size=z)(x y:ZC)(t:ZH):∀j u,[x,y][j]?=T u->(w.alloc (N #[x,y] t)).cell? (((Q z 0 Y):Addr).add j)=T u:=by subst hz;exact dt w x y t
def iY (b:ByteArray):List Ins:=[⟨1,b,0⟩,⟨12,⟨#[]⟩,0⟩,⟨15,⟨#[]⟩,0⟩]
theorem Bh (w:M)(b:ByteArray)(hb:base<=w.heap.size):(w.alloc (N #[J I 1,U b,J I 0,J I 12,U ⟨#[]⟩,J I 0,J I 15,U ⟨#[]⟩,J I 0] 90)).ownsRow base 90 3 (Z (T (Q w.heap.size 0 Y)) 3 3) 3 (bH (lsI (iY b)) 3) :=
 ⟨rfl,.inr ⟨w.heap.size,3,_,rfl,hb,n6 w _,n8 _,by unfold maxLen;omega,rfl,rfl⟩⟩
theorem ze{b:ByteArray}(h:b.size<=5000):∀j,j<3->(lsI (iY b) j).s.size<=5000:=Er (L:=iY b) λx c=>by
 simp only[iY,A9,nj,PS] at c;rcases c with rfl|rfl|rfl
 ·exact h
 ·exact E4 _
 ·exact E4 _
theorem nd{b:List ZC}(h:w.ownsRow base e size (Z (T (Q g 0 Y)) n c) n b)(u:ZC):(w.setCell (Q g j Y) u).ownsRow base e size (Z (T (Q g 0 Y)) n c) n (b.set j u):=by
 rcases h with ⟨o,⟨h2,_⟩|⟨g',cap,f,l,hb,i,h3,h4,p,m⟩⟩;{cases h2}
 ·cases l
  refine⟨by rw[LN];exact o,.inr ⟨g,c,f.setIfInBounds j u,rfl,hb,cy i u,h3,h4,by rw[Array.size_setIfInBounds];exact p,?_⟩⟩;rw[<-m,PD,UA]
theorem qM (hX:X<base)(u:ZC):Agr base w (w.setCell (Q X j Y) u) :=
 ⟨by simp,λk h1 _=>qh w (Q X j Y) u k (by intro e;have e:k=X:=e;omega)⟩
structure SpX (rr xb base:Nat)(W:M)(v0 v1:ZC)(LS:List Source)(RT:List TR):Prop where
 res:W.heap[rr]?=T (N #[Z Y 0 0,Z Y 0 0] 44 (0,0))
 H:W.heap[xb]?=T (N #[v0,v1] 44 (0,0))
 lo:rr<base
 hi:base<=xb
 src:W.ownsRow base 122 2 v0 LS.length (LS.flatMap bI)
 K:TRow W base v1 RT
section
variable {W W':M}{R rr xb base:Nat}{v0 v1:ZC}{LS:List Source}{RT:List TR}
theorem SpX.lt (h:SpX rr xb base W v0 v1 LS RT):xb<W.heap.size:=ah h.H
theorem SpX.cells (h:SpX rr xb base W v0 v1 LS RT):W.cell? (Q xb 0 Y)=T v0/\W.cell? (Q xb 1 Y)=T v1:=by have hb:=h.H;refine⟨?_,?_⟩<;>simp[World.cell?,hb]
def BxT (v0 v1:ZC)(xb:Nat)(V:M):Prop:=V.heap[xb]?=T (N #[v0,v1] 44 (0,0))/\V.cell? (Q xb 1 Y)=T v1
theorem Im (h:W.heap[xb]?=T (N #[v0,v1] 44 (0,0))):BxT v0 v1 xb W:=⟨h,by simp[World.cell?,h]⟩
theorem SpX.keepT (h:SpX rr xb base W v0 v1 LS RT)(V:M)(c:∀j,j<W.heap.size->T j≠v1.ownBlock->V.heap[j]?=W.heap[j]?):BxT v0 v1 xb V :=
 Im ((c xb h.lt λe=>by
  obtain⟨cur,b⟩:=h.K.type _ e.symm
  cases h.H.symm.trans b).trans h.H)
theorem SpX.aa (h:SpX rr xb base W v0 v1 LS RT)(hb:Below B W W')(b:W.heap.size<=B):SpX rr xb base W' v0 v1 LS RT:=by have hl:=h.lt;have:=h.lo;have:=h.hi;exact⟨(hb.block rr (by omega)).trans h.res,(hb.block xb (by omega)).trans h.H,h.lo,h.hi,own_below h.src hb b,h.K.aa hb b⟩
theorem SpX.F (h:SpX rr xb base W v0 v1 LS RT)(b:Only R W W')(hR:R<rr):SpX rr xb base W' v0 v1 LS RT:=by have hl:=h.lt;have h1:=h.lo;have h2:=h.hi;exact⟨(b.block rr (by omega) (by omega)).trans h.res,(b.block xb (by omega) (by omega)).trans h.H,h1,h2,gj h.src b (by omega),h.K.F b (by omega)⟩
theorem SpX.addT (h:SpX rr xb base W v0 v1 LS RT)(n:∀r∈RT,r.2.1≠g)(l:W.ownsRow base 90 3 (Z (T (Q g 0 Y)) x.f c) x.f (bH x.G x.f))
  (i:W'.ownsRow base 125 2 b (RT.length+1) (RT.flatMap bi++bi (x,g,c))) (f:W.grownBy W' v1.ownBlock):SpX rr xb base (W'.setCell (Q xb 1 Y) b) v0 b LS (RT++[(x,g,c)])/\Below base W (W'.setCell (Q xb 1 Y) b):=by
 have hlt:=h.lt;have h1:=h.lo;have h2:=h.hi;have hb:base<=g:=(l.lt g rfl).1;have o:Below base W W':=(eL base W).grown f (by omega) λk q=>(h.K.i.lt k q).1;have m:Below base W (W'.setCell (Q xb 1 Y) b):=o.setCell (p:=(Q xb 1 Y)) h2 b;have j:W'.heap[xb]?=T (N #[v0,v1] 44 (0,0)):=od f h.K.type h.H (by decide);refine⟨⟨(m.block rr h1).trans h.res,cy j b,h1,h2,?_,?_⟩,m⟩
 ·refine ig (h.src.kept f ?_) j (by decide) b;cases hv:v0.ownBlock with
  |none=>exact .inl rfl
  |some k=>exact .inr λe=>iw (mZ h.src k hv) (h.K.type k e.symm) (by decide) rfl
 {exact ww (h.K.more2 n hb l i f) j (by decide) (by decide) b}
theorem TRow.mono (h:TRow W base v1 RT)(hb:base'<=base):TRow W base' v1 RT :=
 ⟨aC h.i hb,λr b=>by obtain⟨h1,h2,h3,h4⟩:=h.G r b;exact⟨h1,h2,h3,by omega⟩,h.up⟩
theorem xG (b:W.heap[rr]?=T (N #[Z Y 0 0,Z Y 0 0] 44 (0,0)))(c:rr<base)(hb:base<=base')(hz:base<=W.heap.size)(f:W.ownsRow base' 122 2 v0 LS.length (LS.flatMap bI))(g:TRow W base' v1 RT):SpX rr W.heap.size base (W.alloc (N #[v0,v1] 44)) v0 v1 LS RT:=by have A:=(q9 W).alloc ly (N #[v0,v1] 44);exact⟨(A.block rr (ah b)).trans b,n6 W _,c,hz,own_below (aC f hb) A ly,(g.mono hb).aa A ly⟩
theorem SpX.fin{c0 c1:Nat}(h:SpX rr xb base W (Z a0 n0 c0) (Z a1 n1 c1) LS RT)(g:n0=LS.length)(b:n1=RT.length)(f:LS.length<=300)(h1:RT.length<=300)(c:GX RT)(u v:ZC):HSp base ((W.setCell (Q rr 0 Y) u).setCell (Q rr 1 Y) v) a0 n0 (da LS) a1 n1 (bY (RT.map (·.1))) :=
 uB (aP (aP h.src h.lo u) h.lo v) g ((h.K.set h.lo u).set h.lo v) b f h1 c
end
