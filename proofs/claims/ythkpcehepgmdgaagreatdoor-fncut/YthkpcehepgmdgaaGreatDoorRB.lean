import Derived.Test.YthkpcehepgmdgaaGreatDoorSP
import Derived.Test.YthkpcehepgmdgaaGreatDoorSD
open Go renaming Addr.mk->Q,Value.slice->Z,Value.string->U,Value.int->J,Obj.cells->N,IntKind.i64->I,World->G,Value->ZD,TypeId->ZI,World.ownsRow->ZW,World.alloc->ZU,World.cell?->ZV,World.setCell->A
open Option renaming none->Y,some->T
open List renaming length->ZT
namespace Go.Proofs.YthkpcehepgmdgaaGreatDoor.Vp
open RowKit
variable {w V:G}{base n j X size b n0 n1 g B b' lo base':Nat}{R RT:List TR}{e t:ZI}{a0 a1 a:Option Addr}{LS:List Source}{x:Target}{f f1:Nat->Target}{r:TR}{f0:Nat->Source}{L:List I3}{nm:ByteArray}
theorem TRow.ac{f:G}{v:ZD}(h:TRow w base v R)(b:Only X w f)(hX:X<base):TRow f base v R:=by refine⟨fV h.y b hX,λr g=>?_,h.up⟩;obtain⟨h1,⟨F,h2⟩,j,i⟩:=h.u r g;have e:=b.block r.2.1 h1.1 (by omega);exact⟨h1.block b.size e,⟨F,h2.block b.size e⟩,j.block e,i⟩
theorem TRow.more2{l q:G}{c:Nat}{v t:ZD}(h:TRow l base v R)(z:∀r∈R,r.2.1≠g)(m:base<=g)
  (s:ZW l base 90 3 (Z (T (Q g 0 Y)) x.l c) x.l (bK x.u x.l)) (p:ZW q base 94 2 t (ZT R+1) (R.flatMap aY++aY (x,g,c))) (f:l.grownBy q v.ownBlock):TRow q base t (R++[(x,g,c)]):=by
 have o:∀k,TypeAt l k 90->T k≠v.ownBlock:=λk u e=>ew u (h.type k e.symm) (by decide) rfl;refine⟨by simpa using p,λr i=>?_,?_⟩;{rcases n6.1 i with i|i;{obtain⟨h1,⟨F,h2⟩,j,ZX⟩:=h.u r i;have e:=f.block r.2.1 h1.1 (o _ j);exact⟨h1.block f.size e,⟨F,h2.block f.size e⟩,j.block e,ZX⟩};{simp at i;subst i;obtain⟨h1,F,h2⟩:=gV s;have j:=fU s;have e:=f.block g h1.1 (o _ j);exact⟨h1.block f.size e,⟨F,h2.block f.size e⟩,j.block e,m⟩}};{rw[MN];refine⟨h.up,by simp,λa y b n=>?_⟩;simp at n;subst n;exact z a y}
structure SpG (LS:List Source)(RT:List TR):Prop where
 s:∀x∈LS,x.e.size<=5000/\x.B.size<=5000
 t:∀r∈RT,r.1.e.size<=5000/\(1<=r.1.l/\r.1.l<=200)/\∀j,j<r.1.l->(r.1.u j).s.size<=5000
theorem Fl:SpG [] []:=⟨λ_ h=>absurd h nj,λ_ h=>absurd h nj⟩
theorem SpG.addS (h:SpG LS RT){x:Source}(h1:x.e.size<=5000)(h2:x.B.size<=5000):SpG (LS++[x]) RT:=by
 refine⟨λy b=>?_,h.t⟩;rcases n6.1 b with b|b;{exact h.s y b};{rw[j4.1 b];exact⟨h1,h2⟩}
theorem SpG.addT (h:SpG LS RT)(h1:r.1.e.size<=5000)(h2:1<=r.1.l/\r.1.l<=200)(f:∀j,j<r.1.l->(r.1.u j).s.size<=5000):SpG LS (RT++[r]):=by
 refine⟨h.s,λy b=>?_⟩;rcases n6.1 b with b|b;{exact h.t y b};{rw[j4.1 b];exact⟨h1,h2,f⟩}
structure SpB (rb:Nat)(W:G)(v0 v1:ZD)(LS:List Source)(RT:List TR):Prop where
 res:W.heap[rb]?=T (N #[Z Y 0 0,Z Y 0 0] 33 (0,0))
 M:W.heap[rb+1]?=T (N #[v0,v1] 33 (0,0))
 src:ZW W (rb+2) 87 2 v0 (ZT LS) (LS.flatMap bw)
 w:TRow W (rb+2) v1 RT
theorem pJ{j:G}{v:ZD}{row:Option Nat}(h:TRow w base v R)(b:w.grownBy j row)(i:∀k,row=T k->TypeAt w k 87):TRow j base v R:=by
 refine⟨h.y.kept b ?_,λr f=>?_,h.up⟩
 ·cases hv:v.ownBlock with
  |none=>exact .inl rfl
  |some k=>exact .inr λe=>ew (h.type k hv) (i k e.symm) (by decide) rfl
 {obtain⟨h1,⟨F,h2⟩,g,m⟩:=h.u r f;have e:=b.block r.2.1 h1.1 (λl=>ew g (i _ l.symm) (by decide) rfl);exact⟨h1.block b.size e,⟨F,h2.block b.size e⟩,g.block e,m⟩}
theorem dC{v:ZD}{i:List ZD}(h:ZW w base e size v n i):∀k,v.ownBlock=T k->TypeAt w k e:=by
 intro k b;rcases h.2 with ⟨rfl,_⟩|⟨g,cap,f,rfl,_,j,_⟩
 {cases b}
 ·cases b
  exact⟨f,j⟩
section
variable {W W':G}{R rb:Nat}{v0 v1:ZD}{LS:List Source}{RT:List TR}
theorem SpB.lt (h:SpB rb W v0 v1 LS RT):rb+1<W.heap.size:=ag h.M
theorem SpB.cells (h:SpB rb W v0 v1 LS RT):ZV W (Q (rb+1) 0 Y)=T v0/\ZV W (Q (rb+1) 1 Y)=T v1:=by have hb:=h.M;refine⟨?_,?_⟩<;>simp[World.cell?,hb]
theorem SpB.aa (h:SpB rb W v0 v1 LS RT)(hb:Below W.heap.size W W'):SpB rb W' v0 v1 LS RT :=
 have hl:=h.lt
 ⟨(hb.block rb (by omega)).trans h.res,(hb.block (rb+1) h.lt).trans h.M,own_below h.src hb ly,h.w.aa hb ly⟩
theorem SpB.ac (h:SpB rb W v0 v1 LS RT)(b:Only R W W')(hR:R<rb):SpB rb W' v0 v1 LS RT:=by have hl:=h.lt;exact⟨(b.block rb (by omega) (by omega)).trans h.res,(b.block (rb+1) h.lt (by omega)).trans h.M,fV h.src b (by omega),h.w.ac b (by omega)⟩
theorem Fo (w:G):SpB w.heap.size (ZU (ZU w (N #[Z Y 0 0,Z Y 0 0] 33)) (N #[Z Y 0 0,Z Y 0 0] 33)) (Z Y 0 0) (Z Y 0 0) [] []:=by
 have hz:(ZU w (N #[Z Y 0 0,Z Y 0 0] 33)).heap.size=w.heap.size+1:=by simp
 refine⟨?_,?_,CL _ _ _ _,df _ _⟩;{exact(((cM (w.heap.size+1) _).alloc (by rw[hz];exact j6 _) _).block w.heap.size (gM _)).trans (nD w _)};{have h2:=nD (ZU w (N #[Z Y 0 0,Z Y 0 0] 33)) (N #[Z Y 0 0,Z Y 0 0] 33);rw[hz] at h2;exact h2}
theorem SpB.addS{x:Source}{b:ZD}(h:SpB rb W v0 v1 LS RT)(g:W'.ownsRow (rb+2) 87 2 b (ZT LS+1) (LS.flatMap bw++bw x))(i:W.grownBy W' v0.ownBlock):SpB rb (A W' (Q (rb+1) 0 Y) b) b v1 (LS++[x]) RT/\Below (rb+1) W (A W' (Q (rb+1) 0 Y) b):=by
 have hlt:=h.lt;have m:Below (rb+2) W W':=(cM (rb+2) W).grown i (by omega) λk f=>(h.src.lt k f).1;have l:Below (rb+1) W (A W' (Q (rb+1) 0 Y) b):=(m.mono (IS _)).setCell (p:=(Q (rb+1) 0 Y)) ly b;refine⟨⟨(l.block rb (gM _)).trans h.res,?_,?_,?_⟩,l⟩;{exact bD ((m.block (rb+1) (gM _)).trans h.M) b};{have h2:=aC (R:=rb+1) (j:=0) g (gM _) b;rw[gB,IH];simpa using h2};{exact(pJ h.w i λk f=>dC h.src k f).set (gM _) b}
theorem SpB.addT{c:Nat}{b:ZD}(h:SpB rb W v0 v1 LS RT)(q:∀r∈RT,r.2.1≠g)(l:W.ownsRow (rb+2) 90 3 (Z (T (Q g 0 Y)) x.l c) x.l (bK x.u x.l))
  (i:W'.ownsRow (rb+2) 94 2 b (ZT RT+1) (RT.flatMap aY++aY (x,g,c))) (f:W.grownBy W' v1.ownBlock):SpB rb (A W' (Q (rb+1) 1 Y) b) v0 b LS (RT++[(x,g,c)])/\Below (rb+1) W (A W' (Q (rb+1) 1 Y) b):=by
 have hlt:=h.lt;have hb:rb+2<=g:=(l.lt g rfl).1;have n:Below (rb+2) W W':=(cM (rb+2) W).grown f (by omega) λk o=>(h.w.y.lt k o).1;have m:Below (rb+1) W (A W' (Q (rb+1) 1 Y) b):=(n.mono (IS _)).setCell (p:=(Q (rb+1) 1 Y)) ly b;refine⟨⟨(m.block rb (gM _)).trans h.res,?_,?_,?_⟩,m⟩;{exact bD ((n.block (rb+1) (gM _)).trans h.M) b}
 ·refine aC (R:=rb+1) (j:=1) (h.src.kept f ?_) (gM _) b;cases hv:v0.ownBlock with
  |none=>exact .inl rfl
  |some k=>exact .inr λe=>ew (dC h.src k hv) (h.w.type k e.symm) (by decide) rfl
 {exact(h.w.more2 q hb l i f).set (gM _) b}
end
def Agr (base:Nat)(w V:G):Prop:=w.heap.size<=V.heap.size/\∀k,base<=k->k<w.heap.size->V.heap[k]?=w.heap[k]?
theorem Agr.refl (base:Nat)(w:G):Agr base w w:=⟨j6 _,λ_ _ _=>rfl⟩
theorem Agr.trans{v u:G}(h:Agr base w v)(k:Agr base v u):Agr base w u :=
 ⟨AD h.1 k.1,λi h1 h2=>(k.2 i h1 (lj h2 h.1)).trans (h.2 i h1 h2)⟩
theorem Only.agr{R:Nat}(h:Only R w V)(hR:R<base):Agr base w V:=⟨h.size,λk h1 h2=>h.block k h2 (by omega)⟩
theorem cC (h:Below B w V)(hB:w.heap.size<=B):Agr base w V:=⟨h.size,λk _ h2=>h.block k (by omega)⟩
theorem Agr.mono (h:Agr b w V)(hb:b<=b'):Agr b' w V:=⟨h.1,λk h1 h2=>h.2 k (by omega) h2⟩
theorem eW{v:ZD}{b:List ZD}(h:ZW w base e size v n b)(j:Agr base w V):ZW V base e size v n b:=by
 refine⟨h.1,?_⟩;rcases h.2 with h1|⟨g,cap,f,rfl,hb,i,h2⟩
 {exact .inl h1};{exact .inr ⟨g,cap,f,rfl,hb,(j.2 g hb (ag i)).trans i,h2⟩}
theorem TRow.agr{v:ZD}(h:TRow w base v R)(b:Agr base w V):TRow V base v R:=by refine⟨eW h.y b,λr g=>?_,h.up⟩;obtain⟨h1,⟨F,h2⟩,i,f⟩:=h.u r g;have e:=b.2 r.2.1 f h1.1;exact⟨h1.block b.1 e,⟨F,h2.block b.1 e⟩,i.block e,f⟩
structure HSp (base:Nat)(w:G)(a0:Option Addr)(n0:Nat)(f0:Nat->Source)(a1:Option Addr)(n1:Nat)(f1:Nat->Target):Prop where
 sl:∀V,Agr base w V->SlSource V a0 n0 f0/\SlTarget V a1 n1 f1
 hn0:n0<=300
 hn1:n1<=300
 aq:∀i,i<n1->(f1 i).l<=300/\∀j,j<(f1 i).l->((f1 i).u j).s.size<=5000
theorem HSp.agr (h:HSp base w a0 n0 f0 a1 n1 f1)(b:Agr base w V):HSp base V a0 n0 f0 a1 n1 f1 :=
 ⟨λZL f=>h.sl ZL (b.trans f),h.hn0,h.hn1,h.aq⟩
theorem HSp.mono (h:HSp b w a0 n0 f0 a1 n1 f1)(hb:b'<=b):HSp b' w a0 n0 f0 a1 n1 f1 :=
 ⟨λZL f=>h.sl ZL (f.mono hb),h.hn0,h.hn1,h.aq⟩
theorem fo{c0 c1:Nat}(l:ZW w base 87 2 (Z a0 n0 c0) (ZT LS) (LS.flatMap bw))(m:n0=ZT LS)(n:TRow w base (Z a1 n1 c1) RT)(f:n1=ZT RT)(g:ZT LS<=300)(h1:ZT RT<=300)
  (h:∀r∈RT,r.1.l<=300/\∀j,j<r.1.l->(r.1.u j).s.size<=5000):HSp base w a0 n0 (ct LS) a1 n1 (bj (RT.map (·.1))):=by
 subst m f;refine⟨λV b=>⟨ko (eW l b),Bt (n.agr b)⟩,g,h1,λi hi=>?_⟩;have e:bj (RT.map (·.1)) i=RT[i].1:=by simp[bj,hi]
 rw[e];exact h _ (gz hi)
def DH (w:G)(R q:Nat)(e:Ending)(b:G):Prop:=∃(a0:Option Addr) (n0 c0:Nat) (f0:Nat->Source) (a1:Option Addr) (n1 c1:Nat) (f1:Nat->Target),e=.returned (.agg #[Z a0 n0 c0,Z a1 n1 c1])/\HSp w.heap.size b a0 n0 f0 a1 n1 f1/\∃f:Nat,f<=q/\Rd b R f/\Only R w b
theorem pK (L:List I3):i3L L=bK (de L) (ZT L):=by
 have e:(List.range (ZT L)).map (de L)=L.map λx=>(⟨x.1,⟨x.2.1.toArray⟩,x.2.2⟩:Ins):=by
  refine List.ext_getElem (by simp) λi h1 h2=>?_;have hi:i<ZT L:=by simpa using h2
  simp[de,hi]
 rw[bK,e,QM];rfl
structure PrG (base:Nat)(W:G)(RT:List TR)(b g c n:Nat)(f:Nat->Ins):Prop where
 ab:PB W b (Z (T (Q g 0 Y)) n c)
 y:ZW W base 90 3 (Z (T (Q g 0 Y)) n c) n (bK f n)
 new:∀r∈RT,r.2.1≠g
 lo:base<=b
 num:1<=n/\n<=200
 sz:∀j,j<n->(f j).s.size<=5000
section
variable {W W':G}{base R b g c n:Nat}{f:Nat->Ins}{RT:List TR}
theorem PrG.aa (h:PrG base W RT b g c n f)(hb:Below B W W')(i:W.heap.size<=B):PrG base W' RT b g c n f :=
 ⟨h.ab.aa hb (lj h.ab.lt i),own_below h.y hb i,h.new,h.lo,h.num,h.sz⟩
theorem PrG.ac (h:PrG base W RT b g c n f)(i:Only R W W')(hR:R<base):PrG base W' RT b g c n f :=
 ⟨(i.block b h.ab.lt (by have:=h.lo;omega)).trans h.ab,fV h.y i hR,h.new,h.lo,h.num,h.sz⟩
theorem TRow.ltg{base:Nat}{v:ZD}{R:List TR}(h:TRow w base v R):∀r∈R,r.2.1<w.heap.size:=λr b=>(h.u r b).1.1
theorem TRow.atk{base c k:Nat}{R:List TR}(h:TRow w base (Z a (ZT R) c) R)(l:k<ZT R):∃(b:Nat) (r:TR),a=T (Q b 0 Y)/\b<w.heap.size/\r∈R/\ZV w (Q b (k*2) Y)=T (U r.1.e)/\ZV w (Q b (k*2+1) Y)=T (Z (T (Q r.2.1 0 Y)) r.1.l r.2.2)/\SlIns w (T (Q r.2.1 0 Y)) r.1.l r.1.u:=by
 obtain⟨g,c',e⟩:=ef h.y (by omega);simp at e;obtain⟨rfl,rfl⟩:=e;obtain⟨r,i,f⟩:=wD l;refine⟨g,r,rfl,(cu h.y).2,f,?_,?_,(h.u r f).1.sl⟩;{exact(a8 h.y (j:=k*2) (u:=U r.1.e) (by have:=cL aY 2 (λ_=>rfl) R k 0 (by omega) _ i;simpa[aY] using this)).1};{exact(a8 h.y (j:=k*2+1) (u:=Z (T (Q r.2.1 0 Y)) r.1.l r.2.2) (by have:=cL aY 2 (λ_=>rfl) R k 1 (by omega) _ i;simpa[aY] using this)).1}
theorem jy (f:∀i∈L,i.2.1.length<=5000):∀j,j<ZT L->(de L j).s.size<=5000:=by
 intro j b;have e:de L j=⟨L[j].1,⟨L[j].2.1.toArray⟩,L[j].2.2⟩:=by simp[de,b]
 rw[e];show L[j].2.1.toArray.size<=5000;simpa using f _ (gz b)
theorem Aq (f:IR W lo g c L)(h:base<=lo)(b:∀r∈RT,r.2.1<lo)(l:base<=W.heap.size)(h1:1<=ZT L/\(ZT L)<=200)(m:∀i∈L,i.2.1.length<=5000):PrG base (ZU W (N #[Z (T (Q g 0 Y)) (ZT L) c] 41)) RT W.heap.size g c (ZT L) (de L):=by
 have hg:=f.lt;refine⟨nD W _,?_,λr j e=>by have:=b r j;omega,l,h1,jy m⟩;have h2:ZW W base 90 3 (Z (T (Q g 0 Y)) (ZT L) c) (ZT L) (bK (de L) (ZT L)):=by rw[<-pK];exact aA f h
 exact own_below h2 ((q9 W).alloc ly _) ly
theorem PrG.put{l c2 i:Nat}{q:Nat->Ins}(h:PrG base W RT b g c n f)(o:W.ownsRow lo 90 3 (Z (T (Q l 0 Y)) i c2) i (bK q i))(ZX:base<=lo)(p:∀r∈RT,r.2.1<lo)(h1:1<=i/\i<=200)(D:∀j,j<i->(q j).s.size<=5000):PrG base (A W (Q b 0 Y) (Z (T (Q l 0 Y)) i c2)) RT b l c2 i q:=by
 have y:=(World.ownsRow.lt o l rfl).1;refine⟨h.ab.set _,?_,λr E e=>by have:=p r E;omega,h.lo,h1,D⟩;have x:b≠l:=by intro e;subst e;obtain⟨m,y⟩:=fU o;have:=h.ab.symm.trans y;cases this
 refine aA ?_ ZX;rcases o with ⟨u,h2|⟨B,cap,m,z,hb,t,C⟩⟩;{exact⟨u,.inl h2⟩}
 ·refine⟨u,.inr ⟨B,cap,m,z,hb,?_,C⟩⟩;cases z
  exact(qh W (Q b 0 Y) _ l (λe=>x e.symm)).trans t
theorem SpB.putP{rb:Nat}{v0 v1:ZD}{v:ZD}(h:SpB rb W v0 v1 LS RT)(D:PB W b v)(hb:rb+2<=b)(u:ZD):SpB rb (A W (Q b 0 Y) u) v0 v1 LS RT:=by
 have far:∀k,k≠b->(A W (Q b 0 Y) u).heap[k]?=W.heap[k]?:=λk p=>qh W (Q b 0 Y) u k (by simpa using p);have m:W.heap.size<=(A W (Q b 0 Y) u).heap.size:=by simp[World.setCell]
 have l:∀k e,TypeAt W k e->e≠41->k≠b:=by
  intro k e ⟨g,p⟩ q t;subst t;have:=D.symm.trans p;cases this
  exact q rfl
 have f:∀{e:ZI} {size n:Nat} {x:ZD} {o:List ZD},ZW W (rb+2) e size x n o->e≠41->(A W (Q b 0 Y) u).ownsRow (rb+2) e size x n o:=by
  intro e size n x o ZX q;rcases ZX with ⟨y,h2|⟨s,cap,g,t,z,j,i⟩⟩;{exact⟨y,.inl h2⟩};{exact⟨y,.inr ⟨s,cap,g,t,z,(far s (l s e ⟨g,j⟩ q)).trans j,i⟩⟩}
 refine⟨(far rb (by omega)).trans h.res,(far (rb+1) (by omega)).trans h.M,f h.src (by decide),f h.w.y (by decide),λr C=>?_,h.w.up⟩;obtain⟨h1,⟨F,h2⟩,i,B⟩:=h.w.u r C;have e:=far r.2.1 (l r.2.1 90 i (by decide));exact⟨h1.block m e,⟨F,h2.block m e⟩,i.block e,B⟩
def Gq (nm tx:ByteArray)(z:Int)(i:Nat):Ins:=([⟨1,nm,0⟩,⟨12,⟨#[]⟩,0⟩,⟨1,tx,0⟩,⟨2,⟨#[]⟩,0⟩,⟨3,⟨#[]⟩,z⟩,⟨15,⟨#[]⟩,0⟩]:List Ins).getD i ⟨0,⟨#[]⟩,0⟩
theorem Ar{tx:ByteArray}{z:Int}(h1:nm.size<=5000)(h2:tx.size<=5000):∀j,j<6->(Gq nm tx z j).s.size<=5000:=by
 have b:(⟨#[]⟩:ByteArray).size<=5000:=DN _;intro j f;match j,f with
 |0,_=>exact h1
 |1,_=>exact b
 |2,_=>exact h2
 |3,_=>exact b
 |4,_=>exact b
 |5,_=>exact b
 |k+6,h=>exact absurd h (by omega)
abbrev qB (nm tx:ByteArray)(z:Int):Array ZD:=#[J I 1,U nm,J I 0,J I 12,U ⟨#[]⟩,J I 0,J I 1,U tx,J I 0,J I 2,U ⟨#[]⟩,J I 0,J I 3,U ⟨#[]⟩,J I z,J I 15,U ⟨#[]⟩,J I 0]
theorem PrG.six (h:PrG base W RT b g c n f)(j:∀r∈RT,r.2.1<W.heap.size)(m:base<=W.heap.size)(nm tx:ByteArray)(z:Int)(h1:nm.size<=5000)(h2:tx.size<=5000):PrG base ((A W (Q b 0 Y) (Z (T (Q W.heap.size 0 Y)) 6 6)).alloc (N (qB nm tx z) 90)) RT b W.heap.size 6 6 (Gq nm tx z):=by
 have hz:(A W (Q b 0 Y) (Z (T (Q W.heap.size 0 Y)) 6 6)).heap.size=W.heap.size:=by simp
 have ZX:=(cM W.heap.size (A W (Q b 0 Y) (Z (T (Q W.heap.size 0 Y)) 6 6))).alloc (by rw[hz];exact j6 _) (N (qB nm tx z) 90);refine⟨(h.ab.set _).aa ZX h.ab.lt,?_,λr l e=>by have:=j r l;omega,h.lo,⟨by omega,by omega⟩,Ar h1 h2⟩;have i:=nD (A W (Q b 0 Y) (Z (T (Q W.heap.size 0 Y)) 6 6)) (N (qB nm tx z) 90);rw[hz] at i;exact⟨rfl,.inr ⟨W.heap.size,6,qB nm tx z,rfl,m,i,j6 _,by unfold maxLen;omega,rfl,rfl⟩⟩
end
theorem dM{v:ZD}{b:List ZD}{p:Array ZD}{fz:Nat × Nat}(h:ZW w base e size v n b)(hX:w.heap[X]?=T (N p t fz))(r:t≠e)(u:ZD):(A w (Q X j Y) u).ownsRow base e size v n b:=by
 rcases h with ⟨f,h2|⟨g,cap,i,q,hb,l,o⟩⟩;{exact⟨f,.inl h2⟩}
 ·refine⟨f,.inr ⟨g,cap,i,q,hb,(qh w (Q X j Y) u g ?_).trans l,o⟩⟩;intro m;obtain rfl:g=X:=m;have:=hX.symm.trans l;cases this
  exact r rfl
theorem j8{v:ZD}{i:Array ZD}{fz:Nat × Nat}(h:TRow w base v R)(hX:w.heap[X]?=T (N i t fz))(m:t≠94)(hi:t≠90)(u:ZD):TRow (A w (Q X j Y) u) base v R:=by
 refine⟨dM h.y hX m u,λr l=>?_,h.up⟩;obtain⟨h1,⟨F,h2⟩,b,n⟩:=h.u r l
 have e:(A w (Q X j Y) u).heap[r.2.1]?=w.heap[r.2.1]?:=qh w (Q X j Y) u r.2.1 (by
  intro g;obtain rfl:r.2.1=X:=g;obtain⟨cur,f⟩:=b;have:=hX.symm.trans f;cases this
  exact hi rfl)
 exact⟨h1.block (by simp) e,⟨F,h2.block (by simp) e⟩,b.block e,n⟩
theorem ft{b:G}{v:ZD}{f:Array ZD}{fz:Nat × Nat}(g:w.grownBy b v.ownBlock)(i:∀k,v.ownBlock=T k->TypeAt w k e)(hX:w.heap[X]?=T (N f t fz))(l:t≠e):b.heap[X]?=T (N f t fz):=by
 refine(g.block X (ag hX) λj=>?_).trans hX;obtain⟨cur,h⟩:=i X j.symm;have:=hX.symm.trans h;cases this
 exact l rfl
def GX (RT:List TR):Prop:=∀r∈RT,r.1.l<=300/\∀j,j<r.1.l->(r.1.u j).s.size<=5000
theorem GX.add (h:GX RT)(h1:r.1.l<=300)(h2:∀j,j<r.1.l->(r.1.u j).s.size<=5000):GX (RT++[r]):=by
 intro y b;rcases n6.1 b with b|b;{exact h y b};{rw[j4.1 b];exact⟨h1,h2⟩}
theorem Fp{t:ByteArray}(hM:R.map (·.1)=keepT f t n)(g:∀i,i<n->(f i).l<=300/\∀j,j<(f i).l->((f i).u j).s.size<=5000):GX R:=by
 intro r b;have h1:r.1∈keepT f t n:=by rw[<-hM];exact T6 b
 have h2:=(List.mem_filter.1 h1).1;obtain⟨i,hi,e⟩:=LA.1 h2;rw[<-e];exact g i (KT.1 hi)
theorem Fq{t:ByteArray}(hM:R.map (·.1)=keepT f t n)(g:∀i,i<n->1<=(f i).l/\(f i).l<=200):∀r∈R,1<=r.1.l/\r.1.l<=200:=by
 intro r b;have h1:r.1∈keepT f t n:=by rw[<-hM];exact T6 b
 have h2:=(List.mem_filter.1 h1).1;obtain⟨i,hi,e⟩:=LA.1 h2;rw[<-e];exact g i (KT.1 hi)
theorem yI{t:ByteArray}(hM:R.map (·.1)=keepT f t n):ZT R<=n:=by
 have h1:ZT R=(keepT f t n).length:=by rw[<-hM,LR]
 have:=R8 (λx:Target=>!(x.e.toList == t.toList)) ((List.range n).map f);rw[h1];simpa[keepT] using this
def lsI (L:List Ins)(i:Nat):Ins:=L.getD i ⟨0,⟨#[]⟩,0⟩
theorem oL{L:List Ins}(h:∀x∈L,x.s.size<=5000):∀j,j<ZT L->(lsI L j).s.size<=5000:=by
 intro j b;have e:lsI L j=L[j]:=by simp[lsI,b]
 rw[e];exact h _ (gz b)
theorem oM{z:Nat}(hz:w.heap.size=z)(x y:ZD)(t:ZI):∀j u,[x,y][j]?=T u->(ZU w (N #[x,y] t)).cell? (((Q z 0 Y):Addr).add j)=T u:=by subst hz;exact cU w x y t
def j9:List Ins:=[⟨1,⟨#[107]⟩,0⟩,⟨15,⟨#[]⟩,0⟩]
def fq (b:ByteArray):List Ins:=[⟨1,b,0⟩,⟨12,⟨#[]⟩,0⟩,⟨15,⟨#[]⟩,0⟩]
theorem wU (w:G)(hb:base<=w.heap.size):(ZU w (N #[J I 1,U ⟨#[107]⟩,J I 0,J I 15,U ⟨#[]⟩,J I 0] 90)).ownsRow base 90 3 (Z (T (Q w.heap.size 0 Y)) 2 2) 2 (bK (lsI j9) 2) :=
 ⟨rfl,.inr ⟨w.heap.size,2,_,rfl,hb,nD w _,j6 _,by unfold maxLen;omega,rfl,rfl⟩⟩
theorem As (w:G)(b:ByteArray)(hb:base<=w.heap.size):(ZU w (N #[J I 1,U b,J I 0,J I 12,U ⟨#[]⟩,J I 0,J I 15,U ⟨#[]⟩,J I 0] 90)).ownsRow base 90 3 (Z (T (Q w.heap.size 0 Y)) 3 3) 3 (bK (lsI (fq b)) 3) :=
 ⟨rfl,.inr ⟨w.heap.size,3,_,rfl,hb,nD w _,j6 _,by unfold maxLen;omega,rfl,rfl⟩⟩
theorem uv:∀j,j<2->(lsI j9 j).s.size<=5000:=oL (L:=j9) (by decide)
theorem pL{b:ByteArray}(h:b.size<=5000):∀j,j<3->(lsI (fq b) j).s.size<=5000:=oL (L:=fq b) λx f=>by
 simp only[fq,BS,nj,NE] at f;rcases f with rfl|rfl|rfl
 ·exact h
 ·exact DN _
 ·exact DN _
theorem gG{c:Nat}{b:List ZD}(h:ZW w base e size (Z (T (Q g 0 Y)) n c) n b)(u:ZD):(A w (Q g j Y) u).ownsRow base e size (Z (T (Q g 0 Y)) n c) n (b.set j u):=by
 rcases h with ⟨l,⟨h2,_⟩|⟨g',cap,f,r,hb,q,m,p,o,i⟩⟩;{cases h2}
 ·cases r
  refine⟨by rw[KP];exact l,.inr ⟨g,c,f.setIfInBounds j u,rfl,hb,bD q u,m,p,by rw[Array.size_setIfInBounds];exact o,?_⟩⟩;rw[<-i,MU,SY]
theorem CZ (h:∀r∈RT,RowIns w r.2.1 0 r.1.l r.1.u/\(∃F,Cells w r.2.1 0 (r.1.l*3) F)/\TypeAt w r.2.1 90/\base<=r.2.1)(l:TypeAt w b 94)(u:ZD):∀r∈RT,RowIns (A w (Q b j Y) u) r.2.1 0 r.1.l r.1.u/\(∃F,Cells (A w (Q b j Y) u) r.2.1 0 (r.1.l*3) F)/\TypeAt (A w (Q b j Y) u) r.2.1 90/\base<=r.2.1:=by
 intro r i;obtain⟨h1,⟨F,h2⟩,g,m⟩:=h r i
 have e:(A w (Q b j Y) u).heap[r.2.1]?=w.heap[r.2.1]?:=qh w (Q b j Y) u r.2.1 (by
  intro f;have f:r.2.1=b:=f
  exact ew g (f ▸ l) (by decide) rfl)
 exact⟨h1.block (by simp) e,⟨F,h2.block (by simp) e⟩,g.block e,m⟩
theorem jf (hX:X<base)(u:ZD):Agr base w (A w (Q X j Y) u) :=
 ⟨by simp,λk h1 _=>qh w (Q X j Y) u k (by intro e;have e:k=X:=e;omega)⟩
abbrev TO:=Target × Option Addr × Nat
def toV (r:TO):List ZD:=[U r.1.e,Z r.2.1 r.1.l r.2.2]
def upO (r:TR):TO:=(r.1,T (Q r.2.1 0 Y),r.2.2)
theorem oN (RT:List TR):RT.flatMap aY=(RT.map upO).flatMap toV:=by rw[QM];rfl
theorem oO{c:Nat}{L:List TO}(h:ZW w base 94 2 (Z a (ZT L) c) (ZT L) (L.flatMap toV))(l:∀r∈L,SlIns w r.2.1 r.1.l r.1.u):SlTarget w a (ZT L) (bj (L.map (·.1))):=by
 by_cases hn:ZT L=0;{exact .inl hn}
 ·obtain⟨g,c',e⟩:=ef h (by omega);simp at e;obtain⟨rfl,rfl⟩:=e;refine .inr ⟨g,0,rfl,(cu h).2,λi hi=>?_⟩;have b:L[i]?=T L[i]:=gq hi;have f:bj (L.map (·.1)) i=L[i].1:=by simp[bj,hi]
  rw[f];refine⟨?_,L[i].2.1,L[i].2.2,?_,l _ (gz hi)⟩;{have:=(a8 h (j:=i*2) (u:=U L[i].1.e) (by have:=cL toV 2 (λ_=>rfl) L i 0 (by omega) _ b;simpa[toV] using this)).1;rwa[show 0+i*2=i*2 by omega]};{have:=(a8 h (j:=i*2+1) (u:=Z L[i].2.1 L[i].1.l L[i].2.2) (by have:=cL toV 2 (λ_=>rfl) L i 1 (by omega) _ b;simpa[toV] using this)).1;rwa[show 0+i*2+1=i*2+1 by omega]}
structure SpX (rr xb base:Nat)(W:G)(v0 v1:ZD)(LS:List Source)(RT:List TR):Prop where
 res:W.heap[rr]?=T (N #[Z Y 0 0,Z Y 0 0] 33 (0,0))
 M:W.heap[xb]?=T (N #[v0,v1] 33 (0,0))
 lo:rr<base
 hi:base<=xb
 src:ZW W base 87 2 v0 (ZT LS) (LS.flatMap bw)
 w:TRow W base v1 RT
section
variable {W W':G}{R rr xb base:Nat}{v0 v1:ZD}{LS:List Source}{RT:List TR}
theorem SpX.lt (h:SpX rr xb base W v0 v1 LS RT):xb<W.heap.size:=ag h.M
theorem SpX.cells (h:SpX rr xb base W v0 v1 LS RT):ZV W (Q xb 0 Y)=T v0/\ZV W (Q xb 1 Y)=T v1:=by have hb:=h.M;refine⟨?_,?_⟩<;>simp[World.cell?,hb]
def BxS (v0 v1:ZD)(xb:Nat)(V:G):Prop:=V.heap[xb]?=T (N #[v0,v1] 33 (0,0))/\ZV V (Q xb 0 Y)=T v0
def BxT (v0 v1:ZD)(xb:Nat)(V:G):Prop:=V.heap[xb]?=T (N #[v0,v1] 33 (0,0))/\ZV V (Q xb 1 Y)=T v1
theorem iH (h:W.heap[xb]?=T (N #[v0,v1] 33 (0,0))):BxS v0 v1 xb W:=⟨h,by simp[World.cell?,h]⟩
theorem mO (h:W.heap[xb]?=T (N #[v0,v1] 33 (0,0))):BxT v0 v1 xb W:=⟨h,by simp[World.cell?,h]⟩
theorem SpX.keepS (h:SpX rr xb base W v0 v1 LS RT)(V:G)(f:∀j,j<W.heap.size->T j≠v0.ownBlock->V.heap[j]?=W.heap[j]?):BxS v0 v1 xb V :=
 iH ((f xb h.lt λe=>by
  obtain⟨cur,b⟩:=dC h.src _ e.symm
  cases h.M.symm.trans b).trans h.M)
theorem SpX.keepT (h:SpX rr xb base W v0 v1 LS RT)(V:G)(f:∀j,j<W.heap.size->T j≠v1.ownBlock->V.heap[j]?=W.heap[j]?):BxT v0 v1 xb V :=
 mO ((f xb h.lt λe=>by
  obtain⟨cur,b⟩:=h.w.type _ e.symm
  cases h.M.symm.trans b).trans h.M)
theorem SpX.open (h:SpX rr xb base W v0 v1 LS RT):W.frozen? (Q xb 0 Y)=false/\W.frozen? (Q xb 1 Y)=false:=by have hb:=h.M;refine⟨?_,?_⟩<;>simp[World.frozen?,hb]
theorem SpX.aa (h:SpX rr xb base W v0 v1 LS RT)(hb:Below B W W')(b:W.heap.size<=B):SpX rr xb base W' v0 v1 LS RT:=by have hl:=h.lt;have:=h.lo;have:=h.hi;exact⟨(hb.block rr (by omega)).trans h.res,(hb.block xb (by omega)).trans h.M,h.lo,h.hi,own_below h.src hb b,h.w.aa hb b⟩
theorem SpX.ac (h:SpX rr xb base W v0 v1 LS RT)(b:Only R W W')(hR:R<rr):SpX rr xb base W' v0 v1 LS RT:=by have hl:=h.lt;have h1:=h.lo;have h2:=h.hi;exact⟨(b.block rr (by omega) (by omega)).trans h.res,(b.block xb (by omega) (by omega)).trans h.M,h1,h2,fV h.src b (by omega),h.w.ac b (by omega)⟩
theorem SpX.addT{c:Nat}{b:ZD}(h:SpX rr xb base W v0 v1 LS RT)(q:∀r∈RT,r.2.1≠g)(l:W.ownsRow base 90 3 (Z (T (Q g 0 Y)) x.l c) x.l (bK x.u x.l))
  (j:ZW W' base 94 2 b (ZT RT+1) (RT.flatMap aY++aY (x,g,c))) (f:W.grownBy W' v1.ownBlock):SpX rr xb base (A W' (Q xb 1 Y) b) v0 b LS (RT++[(x,g,c)])/\Below base W (A W' (Q xb 1 Y) b):=by
 have hlt:=h.lt;have h1:=h.lo;have h2:=h.hi;have hb:base<=g:=(l.lt g rfl).1;have o:Below base W W':=(cM base W).grown f (by omega) λk n=>(h.w.y.lt k n).1;have m:Below base W (A W' (Q xb 1 Y) b):=o.setCell (p:=(Q xb 1 Y)) h2 b;have i:W'.heap[xb]?=T (N #[v0,v1] 33 (0,0)):=ft f h.w.type h.M (by decide);refine⟨⟨(m.block rr h1).trans h.res,bD i b,h1,h2,?_,?_⟩,m⟩
 ·refine dM (h.src.kept f ?_) i (by decide) b;cases hv:v0.ownBlock with
  |none=>exact .inl rfl
  |some k=>exact .inr λe=>ew (dC h.src k hv) (h.w.type k e.symm) (by decide) rfl
 {exact j8 (h.w.more2 q hb l j f) i (by decide) (by decide) b}
theorem SpX.addS{x:Source}{b:ZD}(h:SpX rr xb base W v0 v1 LS RT)(i:ZW W' base 87 2 b (ZT LS+1) (LS.flatMap bw++bw x))(g:W.grownBy W' v0.ownBlock):SpX rr xb base (A W' (Q xb 0 Y) b) b v1 (LS++[x]) RT/\Below base W (A W' (Q xb 0 Y) b):=by
 have hlt:=h.lt;have h1:=h.lo;have h2:=h.hi;have o:Below base W W':=(cM base W).grown g (by omega) λk f=>(h.src.lt k f).1;have m:Below base W (A W' (Q xb 0 Y) b):=o.setCell (p:=(Q xb 0 Y)) h2 b;have l:W'.heap[xb]?=T (N #[v0,v1] 33 (0,0)):=ft g (dC h.src) h.M (by decide);refine⟨⟨(m.block rr h1).trans h.res,bD l b,h1,h2,?_,?_⟩,m⟩;{have n:=dM i l (by decide) (j:=0) b;rw[gB,IH];simpa using n};{exact j8 (pJ h.w g λk f=>dC h.src k f) l (by decide) (by decide) b}
theorem TRow.mono{base:Nat}(h:TRow W base v1 RT)(hb:base'<=base):TRow W base' v1 RT :=
 ⟨aA h.y hb,λr b=>by obtain⟨h1,h2,f,h4⟩:=h.u r b;exact⟨h1,h2,f,by omega⟩,h.up⟩
theorem qC (b:W.heap[rr]?=T (N #[Z Y 0 0,Z Y 0 0] 33 (0,0)))(f:rr<base)(hb:base<=base')(hz:base<=W.heap.size)(h:ZW W base' 87 2 v0 (ZT LS) (LS.flatMap bw))(g:TRow W base' v1 RT):SpX rr W.heap.size base (ZU W (N #[v0,v1] 33)) v0 v1 LS RT:=by have ZX:=(q9 W).alloc ly (N #[v0,v1] 33);exact⟨(ZX.block rr (ag b)).trans b,nD W _,f,hz,own_below (aA h hb) ZX ly,(g.mono hb).aa ZX ly⟩
theorem SpX.fin{c0 c1:Nat}(h:SpX rr xb base W (Z a0 n0 c0) (Z a1 n1 c1) LS RT)(g:n0=ZT LS)(f:n1=ZT RT)(i:ZT LS<=300)(h1:ZT RT<=300)(b:GX RT)(u v:ZD):HSp base (A (A W (Q rr 0 Y) u) (Q rr 1 Y) v) a0 n0 (ct LS) a1 n1 (bj (RT.map (·.1))) :=
 fo (aC (aC h.src h.lo u) h.lo v) g ((h.w.set h.lo u).set h.lo v) f i h1 b
theorem SpX.addNil{c0 c1:Nat}(h:SpX rr xb base W (Z a0 (ZT LS) c0) v1 LS RT)(o:ZW W' base 94 2 (Z a1 (ZT RT+1) c1) (ZT RT+1) (RT.flatMap aY++[U nm,Z Y 0 0]))(b:W.grownBy W' v1.ownBlock)(ZQ:ZT LS<=300)(h1:ZT RT<=299)(D:GX RT):HSp base (A W' (Q xb 1 Y) (Z a1 (ZT RT+1) c1)) a0 (ZT LS) (ct LS) a1 (ZT RT+1) (bj (RT.map (·.1)++[⟨nm,0,λ_=>⟨0,⟨#[]⟩,0⟩⟩]))/\(A W' (Q xb 1 Y) (Z a1 (ZT RT+1) c1)).heap[xb]?=T (N #[Z a0 (ZT LS) c0,Z a1 (ZT RT+1) c1] 33 (0,0))/\(A W' (Q xb 1 Y) (Z a1 (ZT RT+1) c1)).heap[rr]?=T (N #[Z Y 0 0,Z Y 0 0] 33 (0,0))/\Below base W (A W' (Q xb 1 Y) (Z a1 (ZT RT+1) c1)):=by
 have hlt:=h.lt;have ZS:=h.lo;have L:=h.hi;have H:Below base W W':=(cM base W).grown b (by omega) λk C=>(h.w.y.lt k C).1;have z:Below base W (A W' (Q xb 1 Y) (Z a1 (ZT RT+1) c1)):=H.setCell (p:=(Q xb 1 Y)) L _;have g:W'.heap[xb]?=T (N #[Z a0 (ZT LS) c0,v1] 33 (0,0)):=ft b h.w.type h.M (by decide);have q:(A W' (Q xb 1 Y) (Z a1 (ZT RT+1) c1)).ownsRow base 87 2 (Z a0 (ZT LS) c0) (ZT LS) (LS.flatMap bw):=by
  refine dM (h.src.kept b ?_) g (by decide) _;cases hv:(Value.slice a0 (ZT LS) c0).ownBlock with
  |none=>exact .inl rfl
  |some k=>exact .inr λe=>ew (dC h.src k hv) (h.w.type k e.symm) (by decide) rfl
 have u:=dM o g (by decide) (j:=1) (Z a1 (ZT RT+1) c1);refine⟨⟨λV l=>⟨ko (eW q l),?_⟩,ZQ,by omega,λi hi=>?_⟩,bD g _,(z.block rr ZS).trans h.res,z⟩
 ·have x:ZT RT+1=(RT.map upO++[((⟨nm,0,λ_=>⟨0,⟨#[]⟩,0⟩⟩,Y,0):TO)]).length:=by simp
  have t:=eW u l;rw[oN,show(RT.map upO).flatMap toV++[U nm,Z Y 0 0]=(RT.map upO++[((⟨nm,0,λ_=>⟨0,⟨#[]⟩,0⟩⟩,Y,0):TO)]).flatMap toV by rw[IH];rfl,x] at t;have K:=oO t ?_
  ·rw[x];have E:(RT.map upO++[((⟨nm,0,λ_=>⟨0,⟨#[]⟩,0⟩⟩,Y,0):TO)]).map (·.1)=RT.map (·.1)++[⟨nm,0,λ_=>⟨0,⟨#[]⟩,0⟩⟩]:=by rw[AI,List.map_map];rfl
   rw[<-E];exact K
  ·intro r f;rcases n6.1 f with f|f
   ·obtain⟨y,ZP,rfl⟩:=LA.1 f;obtain⟨B,_,ZX,M⟩:=h.w.u y ZP;have z1:=b.block y.2.1 B.1 (λe=>ew ZX (h.w.type _ e.symm) (by decide) rfl);have z2:=B.block b.size z1;have z3:RowIns (A W' (Q xb 1 Y) (Z a1 (ZT RT+1) c1)) y.2.1 0 y.1.l y.1.u:=by refine z2.block (by simp) (qh W' (Q xb 1 Y) _ y.2.1 ?_);intro n;have n:y.2.1=xb:=n;obtain⟨cur,s⟩:=ZX.block z1;rw[n] at s;have:=g.symm.trans s;cases this
    exact(z3.block l.1 (l.2 y.2.1 M z3.1)).sl
   {rw[j4.1 f];exact .inl rfl}
 ·by_cases m:i<ZT RT
  ·have e:bj (RT.map (·.1)++[⟨nm,0,λ_=>⟨0,⟨#[]⟩,0⟩⟩]) i=RT[i].1:=by simp[bj,List.getElem?_append,m]
   rw[e];exact D _ (gz m)
  ·have e:bj (RT.map (·.1)++[⟨nm,0,λ_=>⟨0,⟨#[]⟩,0⟩⟩]) i=⟨nm,0,λ_=>⟨0,⟨#[]⟩,0⟩⟩:=by
    obtain rfl:i=ZT RT:=by omega
    simp[bj]
   rw[e];exact⟨by show 0<=300;omega,λj ZO=>absurd ZO (IT _)⟩
theorem SpX.setS{c0:Nat}{LS':List Source}(h:SpX rr xb base W (Z (T (Q b 0 Y)) (ZT LS) c0) v1 LS RT)(u:ZD)(i:ZT LS'=ZT LS)(l:(LS.flatMap bw).set j u=LS'.flatMap bw):SpX rr xb base (A W (Q b j Y) u) (Z (T (Q b 0 Y)) (ZT LS) c0) v1 LS' RT/\Below base W (A W (Q b j Y) u):=by
 have hb:=(h.src.lt b rfl).1;obtain⟨cur,g⟩:=dC h.src b rfl;have far:∀(X:Nat) f,W.heap[X]?=T (N f 33 (0,0))->(A W (Q b j Y) u).heap[X]?=T (N f 33 (0,0)):=by intro X f hX;refine(qh W (Q b j Y) u X ?_).trans hX;intro e;have e:X=b:=e;subst e;have:=hX.symm.trans g;cases this
 refine⟨⟨far _ _ h.res,far _ _ h.M,h.lo,h.hi,?_,j8 h.w g (by decide) (by decide) u⟩,(cM base W).setCell (p:=(Q b j Y)) hb u⟩;have h2:=gG h.src (j:=j) u;rw[l] at h2;rw[i];exact h2
theorem wV{c0 c1:Nat}{L:List TO}(p:W.ownsRow base 87 2 (Z a0 n0 c0) (ZT LS) (LS.flatMap bw))(q:n0=ZT LS)(t:W.ownsRow base 94 2 (Z a1 n1 c1) n1 (L.flatMap toV))(l:n1=ZT L)(m:ZT LS<=300)(h1:ZT L<=300)
  (h:∀r∈L,∃g,r.2.1=T (Q g 0 Y)/\base<=g/\RowIns W g 0 r.1.l r.1.u) (n:∀r∈L,r.1.l<=300/\∀j,j<r.1.l->(r.1.u j).s.size<=5000):HSp base W a0 n0 (ct LS) a1 n1 (bj (L.map (·.1))):=by
 subst q l;refine⟨λV b=>⟨ko (eW p b),oO (eW t b) λr o=>?_⟩,m,h1,λi hi=>?_⟩;{obtain⟨g,e,hb,f⟩:=h r o;rw[e];exact(f.block b.1 (b.2 g hb f.1)).sl}
 ·have e:bj (L.map (·.1)) i=L[i].1:=by simp[bj,hi]
  rw[e];exact n _ (gz hi)
theorem fE{c:Nat}{f:List ZD}(h:W.ownsRow b e size (Z a n c) n f)(hn:0<n):∃g,a=T (Q g 0 Y):=by obtain⟨g,c',e⟩:=ef h hn;simp at e;exact⟨g,e.1⟩
end
