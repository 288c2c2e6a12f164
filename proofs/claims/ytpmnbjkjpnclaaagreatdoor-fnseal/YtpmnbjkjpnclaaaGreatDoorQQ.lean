import Derived.Test.YtpmnbjkjpnclaaaGreatDoorQB
import Derived.Test.YtpmnbjkjpnclaaaGreatDoorRI
open Go renaming Addr.mk->Q,Value.slice->Z,Value.string->Y,Value.int->J,Obj.cells->N,IntKind.i64->I,World->M,Value->ZC,TypeId->ZH
open Option renaming none->U,some->T
namespace Go.Proofs.YtpmnbjkjpnclaaaGreatDoor.Vp
open RowKit
variable {w V:M}{base c X g size n n0 n1 j B lo base':Nat}{R RT:List TR}{e t:ZH}{LS:List Source}{a0 a1:Option Addr}{x:Target}{b:ZC}{f:List ZC}{r:TR}{f0:Nat->Source}{f1:Nat->Target}{L:List I3}
theorem TRow.F{c:M}{v:ZC}(h:TRow w base v R)(b:Only X w c)(hX:X<base):TRow c base v R:=by refine⟨gw h.i b hX,λr f=>?_,h.up⟩;obtain⟨h1,⟨F,h2⟩,h3,h4⟩:=h.H r f;have e:=b.block r.2.1 h1.1 (by omega);exact⟨h1.block b.size e,⟨F,h2.block b.size e⟩,h3.block e,h4⟩
theorem TRow.more2{l p:M}{v q:ZC}(h:TRow l base v R)(t:∀r∈R,r.2.1≠g)(j:base<=g)
  (s:l.ownsRow base 151 3 (Z (T (Q g 0 U)) x.f c) x.f (bJ x.H x.f)) (o:p.ownsRow base 146 2 q (R.length+1) (R.flatMap bj++bj (x,g,c))) (f:l.grownBy p v.ownBlock):TRow p base q (R++[(x,g,c)]):=by
 have m:∀k,TypeAt l k 151->T k≠v.ownBlock:=λk u e=>iC u (h.type k e.symm) (by decide) rfl;refine⟨by simpa using o,λr i=>?_,?_⟩;{rcases p8.1 i with i|i;{obtain⟨h1,⟨F,h2⟩,h3,h4⟩:=h.H r i;have e:=f.block r.2.1 h1.1 (m _ h3);exact⟨h1.block f.size e,⟨F,h2.block f.size e⟩,h3.block e,h4⟩};{simp at i;subst i;obtain⟨h1,F,h2⟩:=nQ s;have h3:=lT s;have e:=f.block g h1.1 (m _ h3);exact⟨h1.block f.size e,⟨F,h2.block f.size e⟩,h3.block e,j⟩}};{rw[PF];refine⟨h.up,by simp,λa y b n=>?_⟩;simp at n;subst n;exact t a y}
structure SpG (LS:List Source)(RT:List TR):Prop where
 s:∀x∈LS,x.e.size<=5000/\x.B.size<=5000
 t:∀r∈RT,r.1.e.size<=5000/\(1<=r.1.f/\r.1.f<=200)/\∀j,j<r.1.f->(r.1.H j).s.size<=5000
theorem Ie:SpG [] []:=⟨λ_ h=>absurd h nj,λ_ h=>absurd h nj⟩
theorem SpG.addS (h:SpG LS RT){x:Source}(h1:x.e.size<=5000)(h2:x.B.size<=5000):SpG (LS++[x]) RT:=by
 refine⟨λy b=>?_,h.t⟩;rcases p8.1 b with b|b;{exact h.s y b};{rw[nD.1 b];exact⟨h1,h2⟩}
theorem SpG.addT (h:SpG LS RT)(h1:r.1.e.size<=5000)(h2:1<=r.1.f/\r.1.f<=200)(h3:∀j,j<r.1.f->(r.1.H j).s.size<=5000):SpG LS (RT++[r]):=by
 refine⟨h.s,λy b=>?_⟩;rcases p8.1 b with b|b;{exact h.t y b};{rw[nD.1 b];exact⟨h1,h2,h3⟩}
structure SpB (rb:Nat)(W:M)(v0 v1:ZC)(LS:List Source)(RT:List TR):Prop where
 res:W.heap[rb]?=T (N #[Z U 0 0,Z U 0 0] 27 (0,0))
 G:W.heap[rb+1]?=T (N #[v0,v1] 27 (0,0))
 src:W.ownsRow (rb+2) 142 2 v0 LS.length (LS.flatMap bK)
 R:TRow W (rb+2) v1 RT
theorem Ae{c:M}{v:ZC}{row:Option Nat}(h:TRow w base v R)(b:w.grownBy c row)(f:∀k,row=T k->TypeAt w k 142):TRow c base v R:=by
 refine⟨h.i.kept b ?_,λr g=>?_,h.up⟩
 ·cases hv:v.ownBlock with
  |none=>exact .inl rfl
  |some k=>exact .inr λe=>iC (h.type k hv) (f k e.symm) (by decide) rfl
 {obtain⟨h1,⟨F,h2⟩,h3,h4⟩:=h.H r g;have e:=b.block r.2.1 h1.1 (λi=>iC h3 (f _ i.symm) (by decide) rfl);exact⟨h1.block b.size e,⟨F,h2.block b.size e⟩,h3.block e,h4⟩}
theorem nB{v:ZC}{i:List ZC}(h:w.ownsRow base e size v n i):∀k,v.ownBlock=T k->TypeAt w k e:=by
 intro k c;rcases h.2 with ⟨rfl,_⟩|⟨g,cap,b,rfl,_,f,_⟩
 {cases c}
 ·cases c
  exact⟨b,f⟩
section
variable {W W':M}{R rb:Nat}{v0 v1:ZC}{LS:List Source}{RT:List TR}
theorem SpB.lt (h:SpB rb W v0 v1 LS RT):rb+1<W.heap.size:=ag h.G
theorem SpB.cells (h:SpB rb W v0 v1 LS RT):W.cell? (Q (rb+1) 0 U)=T v0/\W.cell? (Q (rb+1) 1 U)=T v1:=by have hb:=h.G;refine⟨?_,?_⟩<;>simp[World.cell?,hb]
theorem SpB.aa (h:SpB rb W v0 v1 LS RT)(hb:Below W.heap.size W W'):SpB rb W' v0 v1 LS RT :=
 have hl:=h.lt
 ⟨(hb.block rb (by omega)).trans h.res,(hb.block (rb+1) h.lt).trans h.G,own_below h.src hb ly,h.R.aa hb ly⟩
theorem SpB.F (h:SpB rb W v0 v1 LS RT)(b:Only R W W')(hR:R<rb):SpB rb W' v0 v1 LS RT:=by have hl:=h.lt;exact⟨(b.block rb (by omega) (by omega)).trans h.res,(b.block (rb+1) h.lt (by omega)).trans h.G,gw h.src b (by omega),h.R.F b (by omega)⟩
theorem Ig (w:M):SpB w.heap.size ((w.alloc (N #[Z U 0 0,Z U 0 0] 27)).alloc (N #[Z U 0 0,Z U 0 0] 27)) (Z U 0 0) (Z U 0 0) [] []:=by
 have hz:(w.alloc (N #[Z U 0 0,Z U 0 0] 27)).heap.size=w.heap.size+1:=by simp
 refine⟨?_,?_,A9 _ _ _ _,dh _ _⟩;{exact(((dB (w.heap.size+1) _).alloc (by rw[hz];exact n6 _) _).block w.heap.size (AP _)).trans (nL w _)};{have h2:=nL (w.alloc (N #[Z U 0 0,Z U 0 0] 27)) (N #[Z U 0 0,Z U 0 0] 27);rw[hz] at h2;exact h2}
theorem SpB.addS{x:Source}(h:SpB rb W v0 v1 LS RT)(c:W'.ownsRow (rb+2) 142 2 b (LS.length+1) (LS.flatMap bK++bK x))(g:W.grownBy W' v0.ownBlock):SpB rb (W'.setCell (Q (rb+1) 0 U) b) b v1 (LS++[x]) RT/\Below (rb+1) W (W'.setCell (Q (rb+1) 0 U) b):=by
 have hlt:=h.lt;have i:Below (rb+2) W W':=(dB (rb+2) W).grown g (by omega) λk f=>(h.src.lt k f).1;have l:Below (rb+1) W (W'.setCell (Q (rb+1) 0 U) b):=(i.mono (F6 _)).setCell (p:=(Q (rb+1) 0 U)) ly b;refine⟨⟨(l.block rb (AP _)).trans h.res,?_,?_,?_⟩,l⟩;{exact bW ((i.block (rb+1) (AP _)).trans h.G) b};{have h2:=aQ (R:=rb+1) (j:=0) c (AP _) b;rw[cM,BO];simpa using h2};{exact(Ae h.R g λk f=>nB h.src k f).set (AP _) b}
theorem SpB.addT (h:SpB rb W v0 v1 LS RT)(o:∀r∈RT,r.2.1≠g)(m:W.ownsRow (rb+2) 151 3 (Z (T (Q g 0 U)) x.f c) x.f (bJ x.H x.f))
  (f:W'.ownsRow (rb+2) 146 2 b (RT.length+1) (RT.flatMap bj++bj (x,g,c))) (i:W.grownBy W' v1.ownBlock):SpB rb (W'.setCell (Q (rb+1) 1 U) b) v0 b LS (RT++[(x,g,c)])/\Below (rb+1) W (W'.setCell (Q (rb+1) 1 U) b):=by
 have hlt:=h.lt;have hb:rb+2<=g:=(m.lt g rfl).1;have n:Below (rb+2) W W':=(dB (rb+2) W).grown i (by omega) λk q=>(h.R.i.lt k q).1;have l:Below (rb+1) W (W'.setCell (Q (rb+1) 1 U) b):=(n.mono (F6 _)).setCell (p:=(Q (rb+1) 1 U)) ly b;refine⟨⟨(l.block rb (AP _)).trans h.res,?_,?_,?_⟩,l⟩;{exact bW ((n.block (rb+1) (AP _)).trans h.G) b}
 ·refine aQ (R:=rb+1) (j:=1) (h.src.kept i ?_) (AP _) b;cases hv:v0.ownBlock with
  |none=>exact .inl rfl
  |some k=>exact .inr λe=>iC (nB h.src k hv) (h.R.type k e.symm) (by decide) rfl
 {exact(h.R.more2 o hb m f i).set (AP _) b}
end
def Agr (base:Nat)(w V:M):Prop:=w.heap.size<=V.heap.size/\∀k,base<=k->k<w.heap.size->V.heap[k]?=w.heap[k]?
theorem Agr.refl (base:Nat)(w:M):Agr base w w:=⟨n6 _,λ_ _ _=>rfl⟩
theorem Agr.trans{v u:M}(h:Agr base w v)(k:Agr base v u):Agr base w u :=
 ⟨p7 h.1 k.1,λi h1 h2=>(k.2 i h1 (lj h2 h.1)).trans (h.2 i h1 h2)⟩
theorem Only.agr{R:Nat}(h:Only R w V)(hR:R<base):Agr base w V:=⟨h.size,λk h1 h2=>h.block k h2 (by omega)⟩
theorem dX (h:Below B w V)(hB:w.heap.size<=B):Agr base w V:=⟨h.size,λk _ h2=>h.block k (by omega)⟩
theorem Agr.mono{b:Nat}(h:Agr b w V)(hb:b<=c):Agr c w V:=⟨h.1,λk h1 h2=>h.2 k (by omega) h2⟩
theorem iJ{v:ZC}(h:w.ownsRow base e size v n f)(i:Agr base w V):V.ownsRow base e size v n f:=by
 refine⟨h.1,?_⟩;rcases h.2 with h1|⟨g,cap,b,rfl,hb,c,h2⟩
 {exact .inl h1};{exact .inr ⟨g,cap,b,rfl,hb,(i.2 g hb (ag c)).trans c,h2⟩}
theorem TRow.agr{v:ZC}(h:TRow w base v R)(b:Agr base w V):TRow V base v R:=by refine⟨iJ h.i b,λr c=>?_,h.up⟩;obtain⟨h1,⟨F,h2⟩,h3,h4⟩:=h.H r c;have e:=b.2 r.2.1 h4 h1.1;exact⟨h1.block b.1 e,⟨F,h2.block b.1 e⟩,h3.block e,h4⟩
structure HSp (base:Nat)(w:M)(a0:Option Addr)(n0:Nat)(f0:Nat->Source)(a1:Option Addr)(n1:Nat)(f1:Nat->Target):Prop where
 sl:∀V,Agr base w V->SlSource V a0 n0 f0/\SlTarget V a1 n1 f1
 hn0:n0<=300
 hn1:n1<=300
 ad:∀i,i<n1->(f1 i).f<=300/\∀j,j<(f1 i).f->((f1 i).H j).s.size<=5000
theorem HSp.agr (h:HSp base w a0 n0 f0 a1 n1 f1)(b:Agr base w V):HSp base V a0 n0 f0 a1 n1 f1 :=
 ⟨λZJ c=>h.sl ZJ (b.trans c),h.hn0,h.hn1,h.ad⟩
theorem HSp.mono{b:Nat}(h:HSp b w a0 n0 f0 a1 n1 f1)(hb:c<=b):HSp c w a0 n0 f0 a1 n1 f1 :=
 ⟨λZJ f=>h.sl ZJ (f.mono hb),h.hn0,h.hn1,h.ad⟩
theorem vt{c0 c1:Nat}(l:w.ownsRow base 142 2 (Z a0 n0 c0) LS.length (LS.flatMap bK))(m:n0=LS.length)(h:TRow w base (Z a1 n1 c1) RT)(f:n1=RT.length)(g:LS.length<=300)(h1:RT.length<=300)
  (c:∀r∈RT,r.1.f<=300/\∀j,j<r.1.f->(r.1.H j).s.size<=5000):HSp base w a0 n0 (dd LS) a1 n1 (bZ (RT.map (·.1))):=by
 subst m f;refine⟨λV b=>⟨x9 (iJ l b),EE (h.agr b)⟩,g,h1,λi hi=>?_⟩;have e:bZ (RT.map (·.1)) i=RT[i].1:=by simp[bZ,hi]
 rw[e];exact c _ (gz hi)
theorem vu (L:List I3):i3L L=bJ (dn L) L.length:=by
 have e:(List.range L.length).map (dn L)=L.map λx=>(⟨x.1,⟨x.2.1.toArray⟩,x.2.2⟩:Ins):=by
  refine List.ext_getElem (by simp) λi h1 h2=>?_;have hi:i<L.length:=by simpa using h2
  simp[dn,hi]
 rw[bJ,e,VO];rfl
structure PrG (base:Nat)(W:M)(RT:List TR)(b g c n:Nat)(f:Nat->Ins):Prop where
 ab:PB W b (Z (T (Q g 0 U)) n c)
 i:W.ownsRow base 151 3 (Z (T (Q g 0 U)) n c) n (bJ f n)
 new:∀r∈RT,r.2.1≠g
 lo:base<=b
 num:1<=n/\n<=200
 sz:∀j,j<n->(f j).s.size<=5000
section
variable {W W':M}{base R b g c n:Nat}{f:Nat->Ins}{RT:List TR}
theorem PrG.aa (h:PrG base W RT b g c n f)(hb:Below B W W')(i:W.heap.size<=B):PrG base W' RT b g c n f :=
 ⟨h.ab.aa hb (lj h.ab.lt i),own_below h.i hb i,h.new,h.lo,h.num,h.sz⟩
theorem PrG.F (h:PrG base W RT b g c n f)(i:Only R W W')(hR:R<base):PrG base W' RT b g c n f :=
 ⟨(i.block b h.ab.lt (by have:=h.lo;omega)).trans h.ab,gw h.i i hR,h.new,h.lo,h.num,h.sz⟩
theorem TRow.ltg{base:Nat}{v:ZC}{R:List TR}(h:TRow w base v R):∀r∈R,r.2.1<w.heap.size:=λr b=>(h.H r b).1.1
theorem TRow.atk{base c k:Nat}{a:Option Addr}{R:List TR}(h:TRow w base (Z a R.length c) R)(l:k<R.length):∃(b:Nat) (r:TR),a=T (Q b 0 U)/\b<w.heap.size/\r∈R/\w.cell? (Q b (k*2) U)=T (Y r.1.e)/\w.cell? (Q b (k*2+1) U)=T (Z (T (Q r.2.1 0 U)) r.1.f r.2.2)/\SlIns w (T (Q r.2.1 0 U)) r.1.f r.1.H:=by
 obtain⟨g,c',e⟩:=fu h.i (by omega);simp at e;obtain⟨rfl,rfl⟩:=e;obtain⟨r,f,i⟩:=ya l;refine⟨g,r,rfl,(dM h.i).2,i,?_,?_,(h.H r i).1.sl⟩;{exact(cP h.i (j:=k*2) (u:=Y r.1.e) (by have:=dt bj 2 (λ_=>rfl) R k 0 (by omega) _ f;simpa[bj] using this)).1};{exact(cP h.i (j:=k*2+1) (u:=Z (T (Q r.2.1 0 U)) r.1.f r.2.2) (by have:=dt bj 2 (λ_=>rfl) R k 1 (by omega) _ f;simpa[bj] using this)).1}
theorem mB (c:∀i∈L,i.2.1.length<=5000):∀j,j<L.length->(dn L j).s.size<=5000:=by
 intro j b;have e:dn L j=⟨L[j].1,⟨L[j].2.1.toArray⟩,L[j].2.2⟩:=by simp[dn,b]
 rw[e];show L[j].2.1.toArray.size<=5000;simpa using c _ (gz b)
theorem Cs (h:IR W lo g c L)(f:base<=lo)(b:∀r∈RT,r.2.1<lo)(m:base<=W.heap.size)(h1:1<=L.length/\L.length<=200)(j:∀i∈L,i.2.1.length<=5000):PrG base (W.alloc (N #[Z (T (Q g 0 U)) L.length c] 43)) RT W.heap.size g c L.length (dn L):=by
 have hg:=h.lt;refine⟨nL W _,?_,λr l e=>by have:=b r l;omega,m,h1,mB j⟩;have h2:W.ownsRow base 151 3 (Z (T (Q g 0 U)) L.length c) L.length (bJ (dn L) L.length):=by rw[<-vu];exact aB h f
 exact own_below h2 ((q9 W).alloc ly _) ly
theorem PrG.put{l c2 i:Nat}{o:Nat->Ins}(h:PrG base W RT b g c n f)(p:W.ownsRow lo 151 3 (Z (T (Q l 0 U)) i c2) i (bJ o i))(u:base<=lo)(q:∀r∈RT,r.2.1<lo)(h1:1<=i/\i<=200)(B:∀j,j<i->(o j).s.size<=5000):PrG base (W.setCell (Q b 0 U) (Z (T (Q l 0 U)) i c2)) RT b l c2 i o:=by
 have z:=(RV p l rfl).1;refine⟨h.ab.set _,?_,λr C e=>by have:=q r C;omega,h.lo,h1,B⟩;have t:b≠l:=by intro e;subst e;obtain⟨m,z⟩:=lT p;have:=h.ab.symm.trans z;cases this
 refine aB ?_ u;rcases p with ⟨x,h2|⟨D,cap,m,y,hb,A,h3⟩⟩;{exact⟨x,.inl h2⟩}
 ·refine⟨x,.inr ⟨D,cap,m,y,hb,?_,h3⟩⟩;cases y
  exact(qh W (Q b 0 U) _ l (λe=>t e.symm)).trans A
theorem SpB.putP{rb:Nat}{v0 v1:ZC}{v:ZC}(h:SpB rb W v0 v1 LS RT)(A:PB W b v)(hb:rb+2<=b)(u:ZC):SpB rb (W.setCell (Q b 0 U) u) v0 v1 LS RT:=by
 have far:∀k,k≠b->(W.setCell (Q b 0 U) u).heap[k]?=W.heap[k]?:=λk p=>qh W (Q b 0 U) u k (by simpa using p);have g:W.heap.size<=(W.setCell (Q b 0 U) u).heap.size:=by simp[World.setCell]
 have i:∀k e,TypeAt W k e->e≠43->k≠b:=by
  intro k e ⟨c,p⟩ o m;subst m;have:=A.symm.trans p;cases this
  exact o rfl
 have f:∀{e:ZH} {size n:Nat} {x:ZC} {l:List ZC},W.ownsRow (rb+2) e size x n l->e≠43->(W.setCell (Q b 0 U) u).ownsRow (rb+2) e size x n l:=by
  intro e size n x l z o;rcases z with ⟨s,h2|⟨q,cap,c,m,t,j,h3⟩⟩;{exact⟨s,.inl h2⟩};{exact⟨s,.inr ⟨q,cap,c,m,t,(far q (i q e ⟨c,j⟩ o)).trans j,h3⟩⟩}
 refine⟨(far rb (by omega)).trans h.res,(far (rb+1) (by omega)).trans h.G,f h.src (by decide),f h.R.i (by decide),λr y=>?_,h.R.up⟩;obtain⟨h1,⟨F,h2⟩,h3,h4⟩:=h.R.H r y;have e:=far r.2.1 (i r.2.1 151 h3 (by decide));exact⟨h1.block g e,⟨F,h2.block g e⟩,h3.block e,h4⟩
def Jq (nm tx:ByteArray)(z:Int)(i:Nat):Ins:=([⟨1,nm,0⟩,⟨12,⟨#[]⟩,0⟩,⟨1,tx,0⟩,⟨2,⟨#[]⟩,0⟩,⟨3,⟨#[]⟩,z⟩,⟨15,⟨#[]⟩,0⟩]:List Ins).getD i ⟨0,⟨#[]⟩,0⟩
theorem Ct{nm tx:ByteArray}{z:Int}(h1:nm.size<=5000)(h2:tx.size<=5000):∀j,j<6->(Jq nm tx z j).s.size<=5000:=by
 have b:(⟨#[]⟩:ByteArray).size<=5000:=E4 _;intro j c;match j,c with
 |0,_=>exact h1
 |1,_=>exact b
 |2,_=>exact h2
 |3,_=>exact b
 |4,_=>exact b
 |5,_=>exact b
 |k+6,h=>exact absurd h (by omega)
abbrev rA (nm tx:ByteArray)(z:Int):Array ZC:=#[J I 1,Y nm,J I 0,J I 12,Y ⟨#[]⟩,J I 0,J I 1,Y tx,J I 0,J I 2,Y ⟨#[]⟩,J I 0,J I 3,Y ⟨#[]⟩,J I z,J I 15,Y ⟨#[]⟩,J I 0]
theorem PrG.six (h:PrG base W RT b g c n f)(i:∀r∈RT,r.2.1<W.heap.size)(j:base<=W.heap.size)(nm tx:ByteArray)(z:Int)(h1:nm.size<=5000)(h2:tx.size<=5000):PrG base ((W.setCell (Q b 0 U) (Z (T (Q W.heap.size 0 U)) 6 6)).alloc (N (rA nm tx z) 151)) RT b W.heap.size 6 6 (Jq nm tx z):=by
 have hz:(W.setCell (Q b 0 U) (Z (T (Q W.heap.size 0 U)) 6 6)).heap.size=W.heap.size:=by simp
 have A:=(dB W.heap.size (W.setCell (Q b 0 U) (Z (T (Q W.heap.size 0 U)) 6 6))).alloc (by rw[hz];exact n6 _) (N (rA nm tx z) 151);refine⟨(h.ab.set _).aa A h.ab.lt,?_,λr l e=>by have:=i r l;omega,h.lo,⟨by omega,by omega⟩,Ct h1 h2⟩;have h3:=nL (W.setCell (Q b 0 U) (Z (T (Q W.heap.size 0 U)) 6 6)) (N (rA nm tx z) 151);rw[hz] at h3;exact⟨rfl,.inr ⟨W.heap.size,6,rA nm tx z,rfl,j,h3,n6 _,by unfold maxLen;omega,rfl,rfl⟩⟩
end
theorem ip{v:ZC}{p:Array ZC}{fz:Nat × Nat}(h:w.ownsRow base e size v n f)(hX:w.heap[X]?=T (N p t fz))(m:t≠e)(u:ZC):(w.setCell (Q X j U) u).ownsRow base e size v n f:=by
 rcases h with ⟨c,h2|⟨g,cap,b,o,hb,i,h3⟩⟩;{exact⟨c,.inl h2⟩}
 ·refine⟨c,.inr ⟨g,cap,b,o,hb,(qh w (Q X j U) u g ?_).trans i,h3⟩⟩;intro l;obtain rfl:g=X:=l;have:=hX.symm.trans i;cases this
  exact m rfl
theorem xu{v:ZC}{i:Array ZC}{fz:Nat × Nat}(h:TRow w base v R)(hX:w.heap[X]?=T (N i t fz))(f:t≠146)(hi:t≠151)(u:ZC):TRow (w.setCell (Q X j U) u) base v R:=by
 refine⟨ip h.i hX f u,λr b=>?_,h.up⟩;obtain⟨h1,⟨F,h2⟩,h3,h4⟩:=h.H r b
 have e:(w.setCell (Q X j U) u).heap[r.2.1]?=w.heap[r.2.1]?:=qh w (Q X j U) u r.2.1 (by
  intro c;obtain rfl:r.2.1=X:=c;obtain⟨cur,g⟩:=h3;have:=hX.symm.trans g;cases this
  exact hi rfl)
 exact⟨h1.block (by simp) e,⟨F,h2.block (by simp) e⟩,h3.block e,h4⟩
theorem oE{b:M}{v:ZC}{c:Array ZC}{fz:Nat × Nat}(f:w.grownBy b v.ownBlock)(g:∀k,v.ownBlock=T k->TypeAt w k e)(hX:w.heap[X]?=T (N c t fz))(i:t≠e):b.heap[X]?=T (N c t fz):=by
 refine(f.block X (ag hX) λj=>?_).trans hX;obtain⟨cur,h⟩:=g X j.symm;have:=hX.symm.trans h;cases this
 exact i rfl
def GX (RT:List TR):Prop:=∀r∈RT,r.1.f<=300/\∀j,j<r.1.f->(r.1.H j).s.size<=5000
theorem GX.add (h:GX RT)(h1:r.1.f<=300)(h2:∀j,j<r.1.f->(r.1.H j).s.size<=5000):GX (RT++[r]):=by
 intro y b;rcases p8.1 b with b|b;{exact h y b};{rw[nD.1 b];exact⟨h1,h2⟩}
def lsI (L:List Ins)(i:Nat):Ins:=L.getD i ⟨0,⟨#[]⟩,0⟩
theorem Ft{L:List Ins}(h:∀x∈L,x.s.size<=5000):∀j,j<L.length->(lsI L j).s.size<=5000:=by
 intro j b;have e:lsI L j=L[j]:=by simp[lsI,b]
 rw[e];exact h _ (gz b)
theorem Fu{z:Nat}(hz:w.heap.size=z)(x y:ZC)(t:ZH):∀j u,[x,y][j]?=T u->(w.alloc (N #[x,y] t)).cell? (((Q z 0 U):Addr).add j)=T u:=by subst hz;exact du w x y t
def jf (b:ByteArray):List Ins:=[⟨1,b,0⟩,⟨12,⟨#[]⟩,0⟩,⟨15,⟨#[]⟩,0⟩]
theorem Cu (w:M)(b:ByteArray)(hb:base<=w.heap.size):(w.alloc (N #[J I 1,Y b,J I 0,J I 12,Y ⟨#[]⟩,J I 0,J I 15,Y ⟨#[]⟩,J I 0] 151)).ownsRow base 151 3 (Z (T (Q w.heap.size 0 U)) 3 3) 3 (bJ (lsI (jf b)) 3) :=
 ⟨rfl,.inr ⟨w.heap.size,3,_,rfl,hb,nL w _,n6 _,by unfold maxLen;omega,rfl,rfl⟩⟩
theorem Af{b:ByteArray}(h:b.size<=5000):∀j,j<3->(lsI (jf b) j).s.size<=5000:=Ft (L:=jf b) λx c=>by
 simp only[jf,AT,nj,QZ] at c;rcases c with rfl|rfl|rfl
 ·exact h
 ·exact E4 _
 ·exact E4 _
theorem nC (h:w.ownsRow base e size (Z (T (Q g 0 U)) n c) n f)(u:ZC):(w.setCell (Q g j U) u).ownsRow base e size (Z (T (Q g 0 U)) n c) n (f.set j u):=by
 rcases h with ⟨i,⟨h2,_⟩|⟨g',cap,b,l,hb,m,h3,h4,p,o⟩⟩;{cases h2}
 ·cases l
  refine⟨by rw[KK];exact i,.inr ⟨g,c,b.setIfInBounds j u,rfl,hb,bW m u,h3,h4,by rw[Array.size_setIfInBounds];exact p,?_⟩⟩;rw[<-o,QR,VT]
theorem rB (hX:X<base)(u:ZC):Agr base w (w.setCell (Q X j U) u) :=
 ⟨by simp,λk h1 _=>qh w (Q X j U) u k (by intro e;have e:k=X:=e;omega)⟩
structure SpX (rr xb base:Nat)(W:M)(v0 v1:ZC)(LS:List Source)(RT:List TR):Prop where
 res:W.heap[rr]?=T (N #[Z U 0 0,Z U 0 0] 27 (0,0))
 G:W.heap[xb]?=T (N #[v0,v1] 27 (0,0))
 lo:rr<base
 hi:base<=xb
 src:W.ownsRow base 142 2 v0 LS.length (LS.flatMap bK)
 R:TRow W base v1 RT
section
variable {W W':M}{R rr xb base:Nat}{v0 v1:ZC}{LS:List Source}{RT:List TR}
theorem SpX.lt (h:SpX rr xb base W v0 v1 LS RT):xb<W.heap.size:=ag h.G
theorem SpX.cells (h:SpX rr xb base W v0 v1 LS RT):W.cell? (Q xb 0 U)=T v0/\W.cell? (Q xb 1 U)=T v1:=by have hb:=h.G;refine⟨?_,?_⟩<;>simp[World.cell?,hb]
def BxT (v0 v1:ZC)(xb:Nat)(V:M):Prop:=V.heap[xb]?=T (N #[v0,v1] 27 (0,0))/\V.cell? (Q xb 1 U)=T v1
theorem Jr (h:W.heap[xb]?=T (N #[v0,v1] 27 (0,0))):BxT v0 v1 xb W:=⟨h,by simp[World.cell?,h]⟩
theorem SpX.keepT (h:SpX rr xb base W v0 v1 LS RT)(V:M)(c:∀j,j<W.heap.size->T j≠v1.ownBlock->V.heap[j]?=W.heap[j]?):BxT v0 v1 xb V :=
 Jr ((c xb h.lt λe=>by
  obtain⟨cur,b⟩:=h.R.type _ e.symm
  cases h.G.symm.trans b).trans h.G)
theorem SpX.aa (h:SpX rr xb base W v0 v1 LS RT)(hb:Below B W W')(b:W.heap.size<=B):SpX rr xb base W' v0 v1 LS RT:=by have hl:=h.lt;have:=h.lo;have:=h.hi;exact⟨(hb.block rr (by omega)).trans h.res,(hb.block xb (by omega)).trans h.G,h.lo,h.hi,own_below h.src hb b,h.R.aa hb b⟩
theorem SpX.F (h:SpX rr xb base W v0 v1 LS RT)(b:Only R W W')(hR:R<rr):SpX rr xb base W' v0 v1 LS RT:=by have hl:=h.lt;have h1:=h.lo;have h2:=h.hi;exact⟨(b.block rr (by omega) (by omega)).trans h.res,(b.block xb (by omega) (by omega)).trans h.G,h1,h2,gw h.src b (by omega),h.R.F b (by omega)⟩
theorem SpX.addT (h:SpX rr xb base W v0 v1 LS RT)(o:∀r∈RT,r.2.1≠g)(m:W.ownsRow base 151 3 (Z (T (Q g 0 U)) x.f c) x.f (bJ x.H x.f))
  (j:W'.ownsRow base 146 2 b (RT.length+1) (RT.flatMap bj++bj (x,g,c))) (f:W.grownBy W' v1.ownBlock):SpX rr xb base (W'.setCell (Q xb 1 U) b) v0 b LS (RT++[(x,g,c)])/\Below base W (W'.setCell (Q xb 1 U) b):=by
 have hlt:=h.lt;have h1:=h.lo;have h2:=h.hi;have hb:base<=g:=(m.lt g rfl).1;have q:Below base W W':=(dB base W).grown f (by omega) λk n=>(h.R.i.lt k n).1;have l:Below base W (W'.setCell (Q xb 1 U) b):=q.setCell (p:=(Q xb 1 U)) h2 b;have i:W'.heap[xb]?=T (N #[v0,v1] 27 (0,0)):=oE f h.R.type h.G (by decide);refine⟨⟨(l.block rr h1).trans h.res,bW i b,h1,h2,?_,?_⟩,l⟩
 ·refine ip (h.src.kept f ?_) i (by decide) b;cases hv:v0.ownBlock with
  |none=>exact .inl rfl
  |some k=>exact .inr λe=>iC (nB h.src k hv) (h.R.type k e.symm) (by decide) rfl
 {exact xu (h.R.more2 o hb m j f) i (by decide) (by decide) b}
theorem TRow.mono{base:Nat}(h:TRow W base v1 RT)(hb:base'<=base):TRow W base' v1 RT :=
 ⟨aB h.i hb,λr b=>by obtain⟨h1,h2,h3,h4⟩:=h.H r b;exact⟨h1,h2,h3,by omega⟩,h.up⟩
theorem yw (b:W.heap[rr]?=T (N #[Z U 0 0,Z U 0 0] 27 (0,0)))(c:rr<base)(hb:base<=base')(hz:base<=W.heap.size)(f:W.ownsRow base' 142 2 v0 LS.length (LS.flatMap bK))(g:TRow W base' v1 RT):SpX rr W.heap.size base (W.alloc (N #[v0,v1] 27)) v0 v1 LS RT:=by have A:=(q9 W).alloc ly (N #[v0,v1] 27);exact⟨(A.block rr (ag b)).trans b,nL W _,c,hz,own_below (aB f hb) A ly,(g.mono hb).aa A ly⟩
theorem SpX.fin{c0 c1:Nat}(h:SpX rr xb base W (Z a0 n0 c0) (Z a1 n1 c1) LS RT)(b:n0=LS.length)(c:n1=RT.length)(f:LS.length<=300)(h1:RT.length<=300)(g:GX RT)(u v:ZC):HSp base ((W.setCell (Q rr 0 U) u).setCell (Q rr 1 U) v) a0 n0 (dd LS) a1 n1 (bZ (RT.map (·.1))) :=
 vt (aQ (aQ h.src h.lo u) h.lo v) b ((h.R.set h.lo u).set h.lo v) c f h1 g
end
