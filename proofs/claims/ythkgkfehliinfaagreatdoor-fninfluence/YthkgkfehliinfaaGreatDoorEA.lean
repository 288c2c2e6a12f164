import Derived.Test.YthkgkfehliinfaaGreatDoorFP
import Derived.Test.YthkgkfehliinfaaGreatDoorFD
set_option linter.all false
open Go renaming Addr.mk->Q,Value.slice->Y,Value.string->U,Value.int->J,Obj.cells->N,IntKind.i64->I,World->E,Value->ZB,TypeId->ZK,World.heap->B,World.ownsRow->ZX,World.alloc->ZV,World.cell?->ZW,World.setCell->z
open Option renaming none->Z,some->T
open Array renaming size->A
open List renaming length->ZU
namespace Go.Proofs.YthkgkfehliinfaaGreatDoor.Vp
open RowKit
variable {w V:E}{base n j X size b n0 n1 g lo base':Nat}{R RT:List TR}{e t:ZK}{a0 a1 a:O_}{LS:List Source}{x:Target}{f:List ZB}{r:TR}{f0:Nat->Source}{f1:Nat->Target}{L:List I3}{nm:F_}
def TRow.ac{f:E}{v:ZB}(h:TRow w base v R)(b:zd X w f)(hX:X<base):TRow f base v R:=by refine⟨gE h.y b hX,λr j=>?_,h.up⟩;obtain⟨h1,⟨F,h2⟩,g,i⟩:=h.u r j;have e:=b.p r.2.1 h1.1 (by omega);exact⟨h1.p b.size e,⟨F,h2.p b.size e⟩,g.p e,i⟩
def TRow.more2{l q:E}{c:Nat}{v s:ZB}(h:TRow l base v R)(y:∀r∈R,r.2.1≠g)(m:base<=g)
  (t:ZX l base 124 3 (Y (T (Q g 0 Z)) x.h c) x.h (bZ x.u x.h)) (p:ZX q base 95 2 s (ZU R+1) (R.flatMap aZ++aZ (x,g,c))) (f:l.grownBy q v.ownBlock):TRow q base s (R++[(x,g,c)]):=by
 have o:∀k,Qz l k 124->T k≠v.ownBlock:=λk Z8 e=>fc Z8 (h.type k e.c) (by decide) rfl;refine⟨by simpa using p,λr i=>?_,?_⟩;{rcases p8.1 i with i|i;{obtain⟨h1,⟨F,h2⟩,j,u⟩:=h.u r i;have e:=f.p r.2.1 h1.1 (o _ j);exact⟨h1.p f.size e,⟨F,h2.p f.size e⟩,j.p e,u⟩};{simp at i;subst i;obtain⟨h1,F,h2⟩:=kY t;have j:=jH t;have e:=f.p g h1.1 (o _ j);exact⟨h1.p f.size e,⟨F,h2.p f.size e⟩,j.p e,m⟩}};{rw[PD];refine⟨h.up,by simp,λa ZY b n=>?_⟩;simp at n;subst n;exact y a ZY}
structure SpG (LS:List Source)(RT:List TR):Prop where
 s:∀x∈LS,x.e.size<=5000/\x.H.size<=5000
 t:∀r∈RT,r.1.e.size<=5000/\(1<=r.1.h/\r.1.h<=200)/\∀j,j<r.1.h->(r.1.u j).s.size<=5000
def H7:SpG [] []:=⟨λ_ h=>absurd h nj,λ_ h=>absurd h nj⟩
def SpG.addS (h:SpG LS RT){x:Source}(h1:x.e.size<=5000)(h2:x.H.size<=5000):SpG (LS++[x]) RT:=by
 refine⟨λy b=>?_,h.t⟩;rcases p8.1 b with b|b;{exact h.s y b};{rw[j4.1 b];exact⟨h1,h2⟩}
def SpG.addT (h:SpG LS RT)(h1:r.1.e.size<=5000)(h2:1<=r.1.h/\r.1.h<=200)(f:∀j,j<r.1.h->(r.1.u j).s.size<=5000):SpG LS (RT++[r]):=by
 refine⟨h.s,λy b=>?_⟩;rcases p8.1 b with b|b;{exact h.t y b};{rw[j4.1 b];exact⟨h1,h2,f⟩}
structure SpB (rb:Nat)(W:E)(v0 v1:ZB)(LS:List Source)(RT:List TR):Prop where
 res:W.heap[rb]?=T (N #[Y Z 0 0,Y Z 0 0] 29 (0,0))
 ab:W.heap[rb+1]?=T (N #[v0,v1] 29 (0,0))
 src:ZX W (rb+2) 91 2 v0 (ZU LS) (LS.flatMap bF)
 w:TRow W (rb+2) v1 RT
def qJ{j:E}{v:ZB}{row:Option Nat}(h:TRow w base v R)(b:w.grownBy j row)(i:∀k,row=T k->Qz w k 91):TRow j base v R:=by
 refine⟨h.y.kept b ?_,λr g=>?_,h.up⟩
 ·cases hv:v.ownBlock with
  |none=>exact .inl rfl
  |some k=>exact .inr λe=>fc (h.type k hv) (i k e.c) (by decide) rfl
 {obtain⟨h1,⟨F,h2⟩,f,l⟩:=h.u r g;have e:=b.p r.2.1 h1.1 (λm=>fc f (i _ m.c) (by decide) rfl);exact⟨h1.p b.size e,⟨F,h2.p b.size e⟩,f.p e,l⟩}
def eo{v:ZB}{j:List ZB}(h:ZX w base e size v n j):∀k,v.ownBlock=T k->Qz w k e:=by
 intro k b;rcases h.2 with⟨rfl,_⟩|⟨g,j_,f,rfl,_,i,_⟩
 {cases b}
 ·cases b
  exact⟨f,i⟩
section
variable {W W':E}{R rb:Nat}{v0 v1:ZB}{LS:List Source}{RT:List TR}
def SpB.lt (h:SpB rb W v0 v1 LS RT):rb+1<A (B W):=aj h.ab
def SpB.cells (h:SpB rb W v0 v1 LS RT):ZW W (Q (rb+1) 0 Z)=T v0/\ZW W (Q (rb+1) 1 Z)=T v1:=by have hb:=h.ab;refine⟨?_,?_⟩<;>simp[World.cell?,hb]
def SpB.aa (h:SpB rb W v0 v1 LS RT)(hb:Below (A (B W)) W W'):SpB rb W' v0 v1 LS RT:=
 have hl:=h.lt
 ⟨(hb.p rb (by omega)).k h.res,(hb.p (rb+1) h.lt).k h.ab,J_ h.src hb ly,h.w.aa hb ly⟩
def SpB.ac (h:SpB rb W v0 v1 LS RT)(b:zd R W W')(hR:R<rb):SpB rb W' v0 v1 LS RT:=by have hl:=h.lt;exact⟨(b.p rb (by omega) (by omega)).k h.res,(b.p (rb+1) h.lt (by omega)).k h.ab,gE h.src b (by omega),h.w.ac b (by omega)⟩
def H9 (w:E):SpB (A (B w)) (ZV (ZV w (N #[Y Z 0 0,Y Z 0 0] 29)) (N #[Y Z 0 0,Y Z 0 0] 29)) (Y Z 0 0) (Y Z 0 0) [] []:=by
 have hz:A (B (ZV w (N #[Y Z 0 0,Y Z 0 0] 29)))=A (B w)+1:=by simp
 refine⟨?_,?_,CP _ _ _ _,dq _ _⟩;{exact(((a8 (A (B w)+1) _).alloc (by rw[hz];exact p7 _) _).p (A (B w)) (eL _)).k (gM w _)};{have h2:=gM (ZV w (N #[Y Z 0 0,Y Z 0 0] 29)) (N #[Y Z 0 0,Y Z 0 0] 29);rw[hz] at h2;exact h2}
def SpB.addS{x:Source}{b:ZB}(h:SpB rb W v0 v1 LS RT)(g:W'.ownsRow (rb+2) 91 2 b (ZU LS+1) (LS.flatMap bF++bF x))(i:W.grownBy W' v0.ownBlock):SpB rb (z W' (Q (rb+1) 0 Z) b) b v1 (LS++[x]) RT/\Below (rb+1) W (z W' (Q (rb+1) 0 Z) b):=by
 have hlt:=h.lt;have m:Below (rb+2) W W':=(a8 (rb+2) W).grown i (by omega) λk f=>(h.src.lt k f).1;have l:Below (rb+1) W (z W' (Q (rb+1) 0 Z) b):=(m.P (BV _)).setCell (p:=(Q (rb+1) 0 Z)) ly b;refine⟨⟨(l.p rb (eL _)).k h.res,?_,?_,?_⟩,l⟩;{exact cH ((m.p (rb+1) (eL _)).k h.ab) b};{have h2:=aH (R:=rb+1) (j:=0) g (eL _) b;rw[cM,J2];simpa using h2};{exact(qJ h.w i λk f=>eo h.src k f).set (eL _) b}
def SpB.addT{c:Nat}{b:ZB}(h:SpB rb W v0 v1 LS RT)(o:∀r∈RT,r.2.1≠g)(m:W.ownsRow (rb+2) 124 3 (Y (T (Q g 0 Z)) x.h c) x.h (bZ x.u x.h))
  (f:W'.ownsRow (rb+2) 95 2 b (ZU RT+1) (RT.flatMap aZ++aZ (x,g,c))) (i:W.grownBy W' v1.ownBlock):SpB rb (z W' (Q (rb+1) 1 Z) b) v0 b LS (RT++[(x,g,c)])/\Below (rb+1) W (z W' (Q (rb+1) 1 Z) b):=by
 have hlt:=h.lt;have hb:rb+2<=g:=(m.lt g rfl).1;have n:Below (rb+2) W W':=(a8 (rb+2) W).grown i (by omega) λk q=>(h.w.y.lt k q).1;have l:Below (rb+1) W (z W' (Q (rb+1) 1 Z) b):=(n.P (BV _)).setCell (p:=(Q (rb+1) 1 Z)) ly b;refine⟨⟨(l.p rb (eL _)).k h.res,?_,?_,?_⟩,l⟩;{exact cH ((n.p (rb+1) (eL _)).k h.ab) b}
 ·refine aH (R:=rb+1) (j:=1) (h.src.kept i ?_) (eL _) b;cases hv:v0.ownBlock with
  |none=>exact .inl rfl
  |some k=>exact .inr λe=>fc (eo h.src k hv) (h.w.type k e.c) (by decide) rfl
 {exact(h.w.more2 o hb m f i).set (eL _) b}
end
def Agr (base:Nat)(w V:E):Prop:=A (B w)<=A (B V)/\∀k,base<=k->k<A (B w)->V.heap[k]?=w.heap[k]?
def Agr.refl (base:Nat)(w:E):Agr base w w:=⟨p7 _,λ_ _ _=>rfl⟩
def Agr.k{v u:E}(h:Agr base w v)(k:Agr base v u):Agr base w u:=
 ⟨nX h.1 k.1,λi h1 h2=>(k.2 i h1 (lj h2 h.1)).k (h.2 i h1 h2)⟩
def zd.agr{R:Nat}(h:zd R w V)(hR:R<base):Agr base w V:=⟨h.size,λk h1 h2=>h.p k h2 (by omega)⟩
def de{ZZ:Nat}(h:Below ZZ w V)(hB:A (B w)<=ZZ):Agr base w V:=⟨h.size,λk _ h2=>h.p k (by omega)⟩
def Agr.P{f:Nat}(h:Agr b w V)(hb:b<=f):Agr f w V:=⟨h.1,λk h1 h2=>h.2 k (by omega) h2⟩
def fk{v:ZB}(h:ZX w base e size v n f)(j:Agr base w V):ZX V base e size v n f:=by
 refine⟨h.1,?_⟩;rcases h.2 with h1|⟨g,j_,b,rfl,hb,i,h2⟩
 {exact .inl h1};{exact .inr ⟨g,j_,b,rfl,hb,(j.2 g hb (aj i)).k i,h2⟩}
def TRow.agr{v:ZB}(h:TRow w base v R)(b:Agr base w V):TRow V base v R:=by refine⟨fk h.y b,λr i=>?_,h.up⟩;obtain⟨h1,⟨F,h2⟩,g,f⟩:=h.u r i;have e:=b.2 r.2.1 f h1.1;exact⟨h1.p b.1 e,⟨F,h2.p b.1 e⟩,g.p e,f⟩
structure HSp (base:Nat)(w:E)(a0:O_)(n0:Nat)(f0:Nat->Source)(a1:O_)(n1:Nat)(f1:Nat->Target):Prop where
 sl:∀V,Agr base w V->Qx V a0 n0 f0/\Qq V a1 n1 f1
 hn0:n0<=300
 hn1:n1<=300
 aq:∀i,i<n1->(f1 i).h<=300/\∀j,j<(f1 i).h->((f1 i).u j).s.size<=5000
def HSp.agr (h:HSp base w a0 n0 f0 a1 n1 f1)(b:Agr base w V):HSp base V a0 n0 f0 a1 n1 f1:=
 ⟨λZN f=>h.sl ZN (b.k f),h.hn0,h.hn1,h.aq⟩
def HSp.P{f:Nat}(h:HSp b w a0 n0 f0 a1 n1 f1)(hb:f<=b):HSp f w a0 n0 f0 a1 n1 f1:=
 ⟨λZN g=>h.sl ZN (g.P hb),h.hn0,h.hn1,h.aq⟩
def fJ{c0 c1:Nat}(n:ZX w base 91 2 (Y a0 n0 c0) (ZU LS) (LS.flatMap bF))(f:n0=ZU LS)(h:TRow w base (Y a1 n1 c1) RT)(l:n1=ZU RT)(g:ZU LS<=300)(h1:ZU RT<=300)
  (m:∀r∈RT,r.1.h<=300/\∀j,j<r.1.h->(r.1.u j).s.size<=5000):HSp base w a0 n0 (aV LS) a1 n1 (aW (RT.map (·.1))):=by
 subst f l;refine⟨λV b=>⟨kZ (fk n b),uN (h.agr b)⟩,g,h1,λi hi=>?_⟩;have e:aW (RT.map (·.1)) i=RT[i].1:=by simp[aW,hi]
 rw[e];exact m _ (gz hi)
def DH (w:E)(R q:Nat)(e:Ending)(b:E):Prop:=∃(a0:O_) (n0 c0:Nat) (f0:Nat->Source) (a1:O_) (n1 c1:Nat) (f1:Nat->Target),e=.returned (.agg #[Y a0 n0 c0,Y a1 n1 c1])/\HSp (A (B w)) b a0 n0 f0 a1 n1 f1/\∃f:Nat,f<=q/\Rd b R f/\zd R w b
def qK (L:List I3):i3L L=bZ (cY L) (ZU L):=by
 have e:(List.range (ZU L)).map (cY L)=L.map λx=>(⟨x.1,⟨x.2.1.toArray⟩,x.2.2⟩:Ins):=by
  refine WO (by simp) λi h1 h2=>?_;have hi:i<ZU L:=by simpa using h2
  simp[cY,hi]
 rw[bZ,e,UW];rfl
structure PrG (base:Nat)(W:E)(RT:List TR)(b g c n:Nat)(f:Nat->Ins):Prop where
 ad:PB W b (Y (T (Q g 0 Z)) n c)
 y:ZX W base 124 3 (Y (T (Q g 0 Z)) n c) n (bZ f n)
 new:∀r∈RT,r.2.1≠g
 lo:base<=b
 num:1<=n/\n<=200
 sz:∀j,j<n->(f j).s.size<=5000
section
variable {W W':E}{base R b g c n:Nat}{f:Nat->Ins}{RT:List TR}
def PrG.aa (h:PrG base W RT b g c n f){ZZ:Nat}(hb:Below ZZ W W')(i:A (B W)<=ZZ):PrG base W' RT b g c n f:=
 ⟨h.ad.aa hb (lj h.ad.lt i),J_ h.y hb i,h.new,h.lo,h.num,h.sz⟩
def PrG.ac (h:PrG base W RT b g c n f)(i:zd R W W')(hR:R<base):PrG base W' RT b g c n f:=
 ⟨(i.p b h.ad.lt (by have:=h.lo;omega)).k h.ad,gE h.y i hR,h.new,h.lo,h.num,h.sz⟩
def TRow.ltg{base:Nat}{v:ZB}{R:List TR}(h:TRow w base v R):∀r∈R,r.2.1<A (B w):=λr b=>(h.u r b).1.1
def TRow.atk{base c k:Nat}{R:List TR}(h:TRow w base (Y a (ZU R) c) R)(l:k<ZU R):∃(b:Nat) (r:TR),a=T (Q b 0 Z)/\b<A (B w)/\r∈R/\ZW w (Q b (k*2) Z)=T (U r.1.e)/\ZW w (Q b (k*2+1) Z)=T (Y (T (Q r.2.1 0 Z)) r.1.h r.2.2)/\SlIns w (T (Q r.2.1 0 Z)) r.1.h r.1.u:=by
 obtain⟨g,c',e⟩:=ey h.y (by omega);simp at e;obtain⟨rfl,rfl⟩:=e;obtain⟨r,i,f⟩:=xU l;refine⟨g,r,rfl,(cV h.y).2,f,?_,?_,(h.u r f).1.sl⟩;{exact(bA h.y (j:=k*2) (u:=U r.1.e) (by have:=cT aZ 2 (λ_=>rfl) R k 0 (by omega) _ i;simpa[aZ] using this)).1};{exact(bA h.y (j:=k*2+1) (u:=Y (T (Q r.2.1 0 Z)) r.1.h r.2.2) (by have:=cT aZ 2 (λ_=>rfl) R k 1 (by omega) _ i;simpa[aZ] using this)).1}
def iI (f:∀i∈L,i.2.1.length<=5000):∀j,j<ZU L->(cY L j).s.size<=5000:=by
 intro j b;have e:cY L j=⟨L[j].1,⟨L[j].2.1.toArray⟩,L[j].2.2⟩:=by simp[cY,b]
 rw[e];show L[j].2.1.toArray.size<=5000;simpa using f _ (gz b)
def Ct (h:IR W lo g c L)(f:base<=lo)(b:∀r∈RT,r.2.1<lo)(j:base<=A (B W))(h1:1<=ZU L/\(ZU L)<=200)(l:∀i∈L,i.2.1.length<=5000):PrG base (ZV W (N #[Y (T (Q g 0 Z)) (ZU L) c] 37)) RT (A (B W)) g c (ZU L) (cY L):=by
 have hg:=h.lt;refine⟨gM W _,?_,λr m e=>by have:=b r m;omega,j,h1,iI l⟩;have h2:W.ownsRow base 124 3 (Y (T (Q g 0 Z)) (ZU L) c) (ZU L) (bZ (cY L) (ZU L)):=by rw[<-qK];exact aE h f
 exact J_ h2 ((BS W).alloc ly _) ly
def PrG.put{l c2 i:Nat}{p:Nat->Ins}(h:PrG base W RT b g c n f)(q:W.ownsRow lo 124 3 (Y (T (Q l 0 Z)) i c2) i (bZ p i))(Z8:base<=lo)(o:∀r∈RT,r.2.1<lo)(h1:1<=i/\i<=200)(C:∀j,j<i->(p j).s.size<=5000):PrG base (z W (Q b 0 Z) (Y (T (Q l 0 Z)) i c2)) RT b l c2 i p:=by
 have t:=(World.ownsRow.lt q l rfl).1;refine⟨h.ad.set _,?_,λr D e=>by have:=o r D;omega,h.lo,h1,C⟩;have ZY:b≠l:=by intro e;subst e;obtain⟨m,t⟩:=jH q;have:=h.ad.c.k t;cases this
 refine aE ?_ Z8;rcases q with⟨y,h2|⟨ZT,j_,m,x,hb,u,ZZ⟩⟩;{exact⟨y,.inl h2⟩}
 ·refine⟨y,.inr ⟨ZT,j_,m,x,hb,?_,ZZ⟩⟩;cases x
  exact(qh W (Q b 0 Z) _ l (λe=>ZY e.c)).k u
def SpB.putP{rb:Nat}{v0 v1:ZB}{v:ZB}(h:SpB rb W v0 v1 LS RT)(ZY:PB W b v)(hb:rb+2<=b)(u:ZB):SpB rb (z W (Q b 0 Z) u) v0 v1 LS RT:=by
 have far:∀k,k≠b->(z W (Q b 0 Z) u).heap[k]?=W.heap[k]?:=λk q=>qh W (Q b 0 Z) u k (by simpa using q);have j:A (B W)<=A (B (z W (Q b 0 Z) u)):=by simp[World.setCell]
 have m:∀k e,Qz W k e->e≠37->k≠b:=by
  intro k e ⟨g,q⟩ s p;subst p;have:=ZY.c.k q;cases this
  exact s rfl
 have f:∀{e:ZK} {size n:Nat} {x:ZB} {o:List ZB},ZX W (rb+2) e size x n o->e≠37->(z W (Q b 0 Z) u).ownsRow (rb+2) e size x n o:=by
  intro e size n x o D s;rcases D with⟨Z8,h2|⟨t,j_,g,p,y,l,i⟩⟩;{exact⟨Z8,.inl h2⟩};{exact⟨Z8,.inr ⟨t,j_,g,p,y,(far t (m t e ⟨g,l⟩ s)).k l,i⟩⟩}
 refine⟨(far rb (by omega)).k h.res,(far (rb+1) (by omega)).k h.ab,f h.src (by decide),f h.w.y (by decide),λr C=>?_,h.w.up⟩;obtain⟨h1,⟨F,h2⟩,i,ZZ⟩:=h.w.u r C;have e:=far r.2.1 (m r.2.1 124 i (by decide));exact⟨h1.p j e,⟨F,h2.p j e⟩,i.p e,ZZ⟩
def I8 (nm tx:F_)(Z8:Int)(i:Nat):Ins:=([⟨1,nm,0⟩,⟨12,⟨#[]⟩,0⟩,⟨1,tx,0⟩,⟨2,⟨#[]⟩,0⟩,⟨3,⟨#[]⟩,Z8⟩,⟨15,⟨#[]⟩,0⟩]:List Ins).getD i ⟨0,⟨#[]⟩,0⟩
def Cu{tx:F_}{Z8:Int}(h1:nm.size<=5000)(h2:tx.size<=5000):∀j,j<6->(I8 nm tx Z8 j).s.size<=5000:=by
 have b:(⟨#[]⟩:F_).size<=5000:=DW _;intro j f;match j,f with
 |0,_=>exact h1
 |1,_=>exact b
 |2,_=>exact h2
 |3,_=>exact b
 |4,_=>exact b
 |5,_=>exact b
 |k+6,h=>exact absurd h (by omega)
abbrev rM (nm tx:F_)(Z8:Int):Array ZB:=#[J I 1,U nm,J I 0,J I 12,U ⟨#[]⟩,J I 0,J I 1,U tx,J I 0,J I 2,U ⟨#[]⟩,J I 0,J I 3,U ⟨#[]⟩,J I Z8,J I 15,U ⟨#[]⟩,J I 0]
def PrG.six (h:PrG base W RT b g c n f)(j:∀r∈RT,r.2.1<A (B W))(l:base<=A (B W))(nm tx:F_)(Z8:Int)(h1:nm.size<=5000)(h2:tx.size<=5000):PrG base ((z W (Q b 0 Z) (Y (T (Q (A (B W)) 0 Z)) 6 6)).alloc (N (rM nm tx Z8) 124)) RT b (A (B W)) 6 6 (I8 nm tx Z8):=by
 have hz:A (B (z W (Q b 0 Z) (Y (T (Q (A (B W)) 0 Z)) 6 6)))=A (B W):=by simp
 have ZY:=(a8 (A (B W)) (z W (Q b 0 Z) (Y (T (Q (A (B W)) 0 Z)) 6 6))).alloc (by rw[hz];exact p7 _) (N (rM nm tx Z8) 124);refine⟨(h.ad.set _).aa ZY h.ad.lt,?_,λr m e=>by have:=j r m;omega,h.lo,⟨by omega,by omega⟩,Cu h1 h2⟩;have i:=gM (z W (Q b 0 Z) (Y (T (Q (A (B W)) 0 Z)) 6 6)) (N (rM nm tx Z8) 124);rw[hz] at i;exact⟨rfl,.inr ⟨A (B W),6,rM nm tx Z8,rfl,l,i,p7 _,by unfold maxLen;omega,rfl,rfl⟩⟩
end
def dJ{v:ZB}{q:Array ZB}{fz:Nat × Nat}(h:ZX w base e size v n f)(hX:w.heap[X]?=T (N q t fz))(p:t≠e)(u:ZB):(z w (Q X j Z) u).ownsRow base e size v n f:=by
 rcases h with⟨i,h2|⟨g,j_,l,o,hb,b,m⟩⟩;{exact⟨i,.inl h2⟩}
 ·refine⟨i,.inr ⟨g,j_,l,o,hb,(qh w (Q X j Z) u g ?_).k b,m⟩⟩;intro r;obtain rfl:g=X:=r;have:=hX.c.k b;cases this
  exact p rfl
def kN{v:ZB}{m:Array ZB}{fz:Nat × Nat}(h:TRow w base v R)(hX:w.heap[X]?=T (N m t fz))(i:t≠95)(hi:t≠124)(u:ZB):TRow (z w (Q X j Z) u) base v R:=by
 refine⟨dJ h.y hX i u,λr g=>?_,h.up⟩;obtain⟨h1,⟨F,h2⟩,b,f⟩:=h.u r g
 have e:(z w (Q X j Z) u).heap[r.2.1]?=w.heap[r.2.1]?:=qh w (Q X j Z) u r.2.1 (by
  intro n;obtain rfl:r.2.1=X:=n;obtain⟨cur,l⟩:=b;have:=hX.c.k l;cases this
  exact hi rfl)
 exact⟨h1.p (by simp) e,⟨F,h2.p (by simp) e⟩,b.p e,f⟩
def gw{f:E}{v:ZB}{b:Array ZB}{fz:Nat × Nat}(j:w.grownBy f v.ownBlock)(l:∀k,v.ownBlock=T k->Qz w k e)(hX:w.heap[X]?=T (N b t fz))(g:t≠e):f.heap[X]?=T (N b t fz):=by
 refine(j.p X (aj hX) λh=>?_).k hX;obtain⟨cur,i⟩:=l X h.c;have:=hX.c.k i;cases this
 exact g rfl
def GX (RT:List TR):Prop:=∀r∈RT,r.1.h<=300/\∀j,j<r.1.h->(r.1.u j).s.size<=5000
def GX.add (h:GX RT)(h1:r.1.h<=300)(h2:∀j,j<r.1.h->(r.1.u j).s.size<=5000):GX (RT++[r]):=by
 intro y b;rcases p8.1 b with b|b;{exact h y b};{rw[j4.1 b];exact⟨h1,h2⟩}
def yt{f:Nat->Target}{t:F_}(hM:R.map (·.1)=Qj f t n)(b:∀i,i<n->(f i).h<=300/\∀j,j<(f i).h->((f i).u j).s.size<=5000):GX R:=by
 intro r g;have h1:r.1∈Qj f t n:=by rw[<-hM];exact U2 g
 have h2:=(U9.1 h1).1;obtain⟨i,hi,e⟩:=NN.1 h2;rw[<-e];exact b i (E4.1 hi)
def Ia{f:Nat->Target}{t:F_}(hM:R.map (·.1)=Qj f t n)(b:∀i,i<n->1<=(f i).h/\(f i).h<=200):∀r∈R,1<=r.1.h/\r.1.h<=200:=by
 intro r g;have h1:r.1∈Qj f t n:=by rw[<-hM];exact U2 g
 have h2:=(U9.1 h1).1;obtain⟨i,hi,e⟩:=NN.1 h2;rw[<-e];exact b i (E4.1 hi)
def qL{f:Nat->Target}{t:F_}(hM:R.map (·.1)=Qj f t n):ZU R<=n:=by
 have h1:ZU R=(Qj f t n).length:=by rw[<-hM,PJ]
 have:=WF (λx:Target=>!(x.e.toList == t.toList)) ((List.range n).map f);rw[h1];simpa[Qj] using this
def lsI (L:List Ins)(i:Nat):Ins:=L.getD i ⟨0,⟨#[]⟩,0⟩
def vJ{L:List Ins}(h:∀x∈L,x.s.size<=5000):∀j,j<ZU L->(lsI L j).s.size<=5000:=by
 intro j b;have e:lsI L j=L[j]:=by simp[lsI,b]
 rw[e];exact h _ (gz b)
def mC{Z8:Nat}(hz:A (B w)=Z8)(x y:ZB)(t:ZK):∀j u,[x,y][j]?=T u->(ZV w (N #[x,y] t)).cell? (((Q Z8 0 Z):Addr).add j)=T u:=by subst hz;exact df w x y t
def iy:List Ins:=[⟨1,⟨#[107]⟩,0⟩,⟨15,⟨#[]⟩,0⟩]
def iZ (b:F_):List Ins:=[⟨1,b,0⟩,⟨12,⟨#[]⟩,0⟩,⟨15,⟨#[]⟩,0⟩]
def rN (w:E)(hb:base<=A (B w)):(ZV w (N #[J I 1,U ⟨#[107]⟩,J I 0,J I 15,U ⟨#[]⟩,J I 0] 124)).ownsRow base 124 3 (Y (T (Q (A (B w)) 0 Z)) 2 2) 2 (bZ (lsI iy) 2):=
 ⟨rfl,.inr ⟨A (B w),2,_,rfl,hb,gM w _,p7 _,by unfold maxLen;omega,rfl,rfl⟩⟩
def Cv (w:E)(b:F_)(hb:base<=A (B w)):(ZV w (N #[J I 1,U b,J I 0,J I 12,U ⟨#[]⟩,J I 0,J I 15,U ⟨#[]⟩,J I 0] 124)).ownsRow base 124 3 (Y (T (Q (A (B w)) 0 Z)) 3 3) 3 (bZ (lsI (iZ b)) 3):=
 ⟨rfl,.inr ⟨A (B w),3,_,rfl,hb,gM w _,p7 _,by unfold maxLen;omega,rfl,rfl⟩⟩
def pD:∀j,j<2->(lsI iy j).s.size<=5000:=vJ (L:=iy) (by decide)
def Ag{b:F_}(h:b.size<=5000):∀j,j<3->(lsI (iZ b) j).s.size<=5000:=vJ (L:=iZ b) λx f=>by
 simp only[iZ,vG,nj,QW] at f;rcases f with rfl|rfl|rfl
 ·exact h
 ·exact DW _
 ·exact DW _
def gU{c:Nat}{b:List ZB}(h:ZX w base e size (Y (T (Q g 0 Z)) n c) n b)(u:ZB):(z w (Q g j Z) u).ownsRow base e size (Y (T (Q g 0 Z)) n c) n (b.set j u):=by
 rcases h with⟨q,⟨h2,_⟩|⟨g',j_,f,p,hb,o,i,l,r,m⟩⟩;{cases h2}
 ·cases p
  refine⟨by rw[NJ];exact q,.inr ⟨g,c,f.setIfInBounds j u,rfl,hb,cH o u,i,l,by rw[Array.size_setIfInBounds];exact r,?_⟩⟩;rw[<-m,R8,YV]
def FC (h:∀r∈RT,Q_ w r.2.1 0 r.1.h r.1.u/\(∃F,Cells w r.2.1 0 (r.1.h*3) F)/\Qz w r.2.1 124/\base<=r.2.1)(m:Qz w b 95)(u:ZB):∀r∈RT,Q_ (z w (Q b j Z) u) r.2.1 0 r.1.h r.1.u/\(∃F,Cells (z w (Q b j Z) u) r.2.1 0 (r.1.h*3) F)/\Qz (z w (Q b j Z) u) r.2.1 124/\base<=r.2.1:=by
 intro r l;obtain⟨h1,⟨F,h2⟩,g,i⟩:=h r l
 have e:(z w (Q b j Z) u).heap[r.2.1]?=w.heap[r.2.1]?:=qh w (Q b j Z) u r.2.1 (by
  intro f;have f:r.2.1=b:=f
  exact fc g (f ▸ m) (by decide) rfl)
 exact⟨h1.p (by simp) e,⟨F,h2.p (by simp) e⟩,g.p e,i⟩
def fl (hX:X<base)(u:ZB):Agr base w (z w (Q X j Z) u):=
 ⟨by simp,λk h1 _=>qh w (Q X j Z) u k (by intro e;have e:k=X:=e;omega)⟩
abbrev TO:=Target × O_ × Nat
def toV (r:TO):List ZB:=[U r.1.e,Y r.2.1 r.1.h r.2.2]
def upO (r:TR):TO:=(r.1,T (Q r.2.1 0 Z),r.2.2)
def pE (RT:List TR):RT.flatMap aZ=(RT.map upO).flatMap toV:=by rw[UW];rfl
def vK{c:Nat}{L:List TO}(h:ZX w base 95 2 (Y a (ZU L) c) (ZU L) (L.flatMap toV))(l:∀r∈L,SlIns w r.2.1 r.1.h r.1.u):Qq w a (ZU L) (aW (L.map (·.1))):=by
 by_cases hn:ZU L=0;{exact .inl hn}
 ·obtain⟨g,c',e⟩:=ey h (by omega);simp at e;obtain⟨rfl,rfl⟩:=e;refine .inr ⟨g,0,rfl,(cV h).2,λi hi=>?_⟩;have b:L[i]?=T L[i]:=gq hi;have f:aW (L.map (·.1)) i=L[i].1:=by simp[aW,hi]
  rw[f];refine⟨?_,L[i].2.1,L[i].2.2,?_,l _ (gz hi)⟩;{have:=(bA h (j:=i*2) (u:=U L[i].1.e) (by have:=cT toV 2 (λ_=>rfl) L i 0 (by omega) _ b;simpa[toV] using this)).1;rwa[show 0+i*2=i*2 by omega]};{have:=(bA h (j:=i*2+1) (u:=Y L[i].2.1 L[i].1.h L[i].2.2) (by have:=cT toV 2 (λ_=>rfl) L i 1 (by omega) _ b;simpa[toV] using this)).1;rwa[show 0+i*2+1=i*2+1 by omega]}
structure SpX (rr xb base:Nat)(W:E)(v0 v1:ZB)(LS:List Source)(RT:List TR):Prop where
 res:W.heap[rr]?=T (N #[Y Z 0 0,Y Z 0 0] 29 (0,0))
 ab:W.heap[xb]?=T (N #[v0,v1] 29 (0,0))
 lo:rr<base
 hi:base<=xb
 src:ZX W base 91 2 v0 (ZU LS) (LS.flatMap bF)
 w:TRow W base v1 RT
section
variable {W W':E}{R rr xb base:Nat}{v0 v1:ZB}{LS:List Source}{RT:List TR}
def SpX.lt (h:SpX rr xb base W v0 v1 LS RT):xb<A (B W):=aj h.ab
def SpX.cells (h:SpX rr xb base W v0 v1 LS RT):ZW W (Q xb 0 Z)=T v0/\ZW W (Q xb 1 Z)=T v1:=by have hb:=h.ab;refine⟨?_,?_⟩<;>simp[World.cell?,hb]
def BxS (v0 v1:ZB)(xb:Nat)(V:E):Prop:=V.heap[xb]?=T (N #[v0,v1] 29 (0,0))/\ZW V (Q xb 0 Z)=T v0
def BxT (v0 v1:ZB)(xb:Nat)(V:E):Prop:=V.heap[xb]?=T (N #[v0,v1] 29 (0,0))/\ZW V (Q xb 1 Z)=T v1
def i8 (h:W.heap[xb]?=T (N #[v0,v1] 29 (0,0))):BxS v0 v1 xb W:=⟨h,by simp[World.cell?,h]⟩
def vL (h:W.heap[xb]?=T (N #[v0,v1] 29 (0,0))):BxT v0 v1 xb W:=⟨h,by simp[World.cell?,h]⟩
def SpX.Qy (h:SpX rr xb base W v0 v1 LS RT)(V:E)(f:∀j,j<A (B W)->T j≠v0.ownBlock->V.heap[j]?=W.heap[j]?):BxS v0 v1 xb V:=
 i8 ((f xb h.lt λe=>by
  obtain⟨cur,b⟩:=eo h.src _ e.c
  cases h.ab.c.k b).k h.ab)
def SpX.Qj (h:SpX rr xb base W v0 v1 LS RT)(V:E)(f:∀j,j<A (B W)->T j≠v1.ownBlock->V.heap[j]?=W.heap[j]?):BxT v0 v1 xb V:=
 vL ((f xb h.lt λe=>by
  obtain⟨cur,b⟩:=h.w.type _ e.c
  cases h.ab.c.k b).k h.ab)
def SpX.open (h:SpX rr xb base W v0 v1 LS RT):W.frozen? (Q xb 0 Z)=false/\W.frozen? (Q xb 1 Z)=false:=by have hb:=h.ab;refine⟨?_,?_⟩<;>simp[World.frozen?,hb]
def SpX.aa (h:SpX rr xb base W v0 v1 LS RT){ZZ:Nat}(hb:Below ZZ W W')(b:A (B W)<=ZZ):SpX rr xb base W' v0 v1 LS RT:=by have hl:=h.lt;have:=h.lo;have:=h.hi;exact⟨(hb.p rr (by omega)).k h.res,(hb.p xb (by omega)).k h.ab,h.lo,h.hi,J_ h.src hb b,h.w.aa hb b⟩
def SpX.ac (h:SpX rr xb base W v0 v1 LS RT)(b:zd R W W')(hR:R<rr):SpX rr xb base W' v0 v1 LS RT:=by have hl:=h.lt;have h1:=h.lo;have h2:=h.hi;exact⟨(b.p rr (by omega) (by omega)).k h.res,(b.p xb (by omega) (by omega)).k h.ab,h1,h2,gE h.src b (by omega),h.w.ac b (by omega)⟩
def SpX.addT{c:Nat}{b:ZB}(h:SpX rr xb base W v0 v1 LS RT)(n:∀r∈RT,r.2.1≠g)(m:W.ownsRow base 124 3 (Y (T (Q g 0 Z)) x.h c) x.h (bZ x.u x.h))
  (i:ZX W' base 95 2 b (ZU RT+1) (RT.flatMap aZ++aZ (x,g,c))) (f:W.grownBy W' v1.ownBlock):SpX rr xb base (z W' (Q xb 1 Z) b) v0 b LS (RT++[(x,g,c)])/\Below base W (z W' (Q xb 1 Z) b):=by
 have hlt:=h.lt;have h1:=h.lo;have h2:=h.hi;have hb:base<=g:=(m.lt g rfl).1;have q:Below base W W':=(a8 base W).grown f (by omega) λk o=>(h.w.y.lt k o).1;have l:Below base W (z W' (Q xb 1 Z) b):=q.setCell (p:=(Q xb 1 Z)) h2 b;have j:W'.heap[xb]?=T (N #[v0,v1] 29 (0,0)):=gw f h.w.type h.ab (by decide);refine⟨⟨(l.p rr h1).k h.res,cH j b,h1,h2,?_,?_⟩,l⟩
 ·refine dJ (h.src.kept f ?_) j (by decide) b;cases hv:v0.ownBlock with
  |none=>exact .inl rfl
  |some k=>exact .inr λe=>fc (eo h.src k hv) (h.w.type k e.c) (by decide) rfl
 {exact kN (h.w.more2 n hb m i f) j (by decide) (by decide) b}
def SpX.addS{x:Source}{b:ZB}(h:SpX rr xb base W v0 v1 LS RT)(l:ZX W' base 91 2 b (ZU LS+1) (LS.flatMap bF++bF x))(i:W.grownBy W' v0.ownBlock):SpX rr xb base (z W' (Q xb 0 Z) b) b v1 (LS++[x]) RT/\Below base W (z W' (Q xb 0 Z) b):=by
 have hlt:=h.lt;have h1:=h.lo;have h2:=h.hi;have o:Below base W W':=(a8 base W).grown i (by omega) λk g=>(h.src.lt k g).1;have m:Below base W (z W' (Q xb 0 Z) b):=o.setCell (p:=(Q xb 0 Z)) h2 b;have f:W'.heap[xb]?=T (N #[v0,v1] 29 (0,0)):=gw i (eo h.src) h.ab (by decide);refine⟨⟨(m.p rr h1).k h.res,cH f b,h1,h2,?_,?_⟩,m⟩;{have n:=dJ l f (by decide) (j:=0) b;rw[cM,J2];simpa using n};{exact kN (qJ h.w i λk g=>eo h.src k g) f (by decide) (by decide) b}
def TRow.P{base:Nat}(h:TRow W base v1 RT)(hb:base'<=base):TRow W base' v1 RT:=
 ⟨aE h.y hb,λr f=>by obtain⟨h1,h2,b,h4⟩:=h.u r f;exact⟨h1,h2,b,by omega⟩,h.up⟩
def oD (f:W.heap[rr]?=T (N #[Y Z 0 0,Y Z 0 0] 29 (0,0)))(b:rr<base)(hb:base<=base')(hz:base<=A (B W))(h:ZX W base' 91 2 v0 (ZU LS) (LS.flatMap bF))(g:TRow W base' v1 RT):SpX rr (A (B W)) base (ZV W (N #[v0,v1] 29)) v0 v1 LS RT:=by have ZY:=(BS W).alloc ly (N #[v0,v1] 29);exact⟨(ZY.p rr (aj f)).k f,gM W _,b,hz,J_ (aE h hb) ZY ly,(g.P hb).aa ZY ly⟩
def SpX.fin{c0 c1:Nat}(h:SpX rr xb base W (Y a0 n0 c0) (Y a1 n1 c1) LS RT)(g:n0=ZU LS)(b:n1=ZU RT)(i:ZU LS<=300)(h1:ZU RT<=300)(f:GX RT)(u v:ZB):HSp base (z (z W (Q rr 0 Z) u) (Q rr 1 Z) v) a0 n0 (aV LS) a1 n1 (aW (RT.map (·.1))):=
 fJ (aH (aH h.src h.lo u) h.lo v) g ((h.w.set h.lo u).set h.lo v) b i h1 f
def SpX.addNil{c0 c1:Nat}(h:SpX rr xb base W (Y a0 (ZU LS) c0) v1 LS RT)(n:ZX W' base 95 2 (Y a1 (ZU RT+1) c1) (ZU RT+1) (RT.flatMap aZ++[U nm,Y Z 0 0]))(b:W.grownBy W' v1.ownBlock)(D:ZU LS<=300)(h1:ZU RT<=299)(M:GX RT):HSp base (z W' (Q xb 1 Z) (Y a1 (ZU RT+1) c1)) a0 (ZU LS) (aV LS) a1 (ZU RT+1) (aW (RT.map (·.1)++[⟨nm,0,λ_=>⟨0,⟨#[]⟩,0⟩⟩]))/\(z W' (Q xb 1 Z) (Y a1 (ZU RT+1) c1)).heap[xb]?=T (N #[Y a0 (ZU LS) c0,Y a1 (ZU RT+1) c1] 29 (0,0))/\(z W' (Q xb 1 Z) (Y a1 (ZU RT+1) c1)).heap[rr]?=T (N #[Y Z 0 0,Y Z 0 0] 29 (0,0))/\Below base W (z W' (Q xb 1 Z) (Y a1 (ZU RT+1) c1)):=by
 have hlt:=h.lt;have ZT:=h.lo;have L:=h.hi;have ZS:Below base W W':=(a8 base W).grown b (by omega) λk ZQ=>(h.w.y.lt k ZQ).1;have ZY:Below base W (z W' (Q xb 1 Z) (Y a1 (ZU RT+1) c1)):=ZS.setCell (p:=(Q xb 1 Z)) L _;have l:W'.heap[xb]?=T (N #[Y a0 (ZU LS) c0,v1] 29 (0,0)):=gw b h.w.type h.ab (by decide);have o:(z W' (Q xb 1 Z) (Y a1 (ZU RT+1) c1)).ownsRow base 91 2 (Y a0 (ZU LS) c0) (ZU LS) (LS.flatMap bF):=by
  refine dJ (h.src.kept b ?_) l (by decide) _;cases hv:(Value.slice a0 (ZU LS) c0).ownBlock with
  |none=>exact .inl rfl
  |some k=>exact .inr λe=>fc (eo h.src k hv) (h.w.type k e.c) (by decide) rfl
 have t:=dJ n l (by decide) (j:=1) (Y a1 (ZU RT+1) c1);refine⟨⟨λV g=>⟨kZ (fk o g),?_⟩,D,by omega,λi hi=>?_⟩,cH l _,(ZY.p rr ZT).k h.res,ZY⟩
 ·have u:ZU RT+1=(RT.map upO++[((⟨nm,0,λ_=>⟨0,⟨#[]⟩,0⟩⟩,Z,0):TO)]).length:=by simp
  have Z8:=fk t g;rw[pE,show(RT.map upO).flatMap toV++[U nm,Y Z 0 0]=(RT.map upO++[((⟨nm,0,λ_=>⟨0,⟨#[]⟩,0⟩⟩,Z,0):TO)]).flatMap toV by rw[J2];rfl,u] at Z8;have K:=vK Z8 ?_
  ·rw[u];have H:(RT.map upO++[((⟨nm,0,λ_=>⟨0,⟨#[]⟩,0⟩⟩,Z,0):TO)]).map (·.1)=RT.map (·.1)++[⟨nm,0,λ_=>⟨0,⟨#[]⟩,0⟩⟩]:=by rw[NE,List.map_map];rfl
   rw[<-H];exact K
  ·intro r f;rcases p8.1 f with f|f
   ·obtain⟨y,ZR,rfl⟩:=NN.1 f;obtain⟨ZZ,_,x,C⟩:=h.w.u y ZR;have z1:=b.p y.2.1 ZZ.1 (λe=>fc x (h.w.type _ e.c) (by decide) rfl);have z2:=ZZ.p b.size z1;have z3:Q_ (z W' (Q xb 1 Z) (Y a1 (ZU RT+1) c1)) y.2.1 0 y.1.h y.1.u:=by refine z2.p (by simp) (qh W' (Q xb 1 Z) _ y.2.1 ?_);intro q;have q:y.2.1=xb:=q;obtain⟨cur,s⟩:=x.p z1;rw[q] at s;have:=l.c.k s;cases this
    exact(z3.p g.1 (g.2 y.2.1 C z3.1)).sl
   {rw[j4.1 f];exact .inl rfl}
 ·by_cases m:i<ZU RT
  ·have e:aW (RT.map (·.1)++[⟨nm,0,λ_=>⟨0,⟨#[]⟩,0⟩⟩]) i=RT[i].1:=by simp[aW,List.getElem?_append,m]
   rw[e];exact M _ (gz m)
  ·have e:aW (RT.map (·.1)++[⟨nm,0,λ_=>⟨0,⟨#[]⟩,0⟩⟩]) i=⟨nm,0,λ_=>⟨0,⟨#[]⟩,0⟩⟩:=by
    obtain rfl:i=ZU RT:=by omega
    simp[aW]
   rw[e];exact⟨by show 0<=300;omega,λj G=>absurd G (NF _)⟩
def SpX.setS{c0:Nat}{LS':List Source}(h:SpX rr xb base W (Y (T (Q b 0 Z)) (ZU LS) c0) v1 LS RT)(u:ZB)(l:ZU LS'=ZU LS)(i:(LS.flatMap bF).set j u=LS'.flatMap bF):SpX rr xb base (z W (Q b j Z) u) (Y (T (Q b 0 Z)) (ZU LS) c0) v1 LS' RT/\Below base W (z W (Q b j Z) u):=by
 have hb:=(h.src.lt b rfl).1;obtain⟨cur,g⟩:=eo h.src b rfl;have far:∀(X:Nat) f,W.heap[X]?=T (N f 29 (0,0))->(z W (Q b j Z) u).heap[X]?=T (N f 29 (0,0)):=by intro X f hX;refine(qh W (Q b j Z) u X ?_).k hX;intro e;have e:X=b:=e;subst e;have:=hX.c.k g;cases this
 refine⟨⟨far _ _ h.res,far _ _ h.ab,h.lo,h.hi,?_,kN h.w g (by decide) (by decide) u⟩,(a8 base W).setCell (p:=(Q b j Z)) hb u⟩;have h2:=gU h.src (j:=j) u;rw[i] at h2;rw[l];exact h2
def yu{c0 c1:Nat}{L:List TO}(t:W.ownsRow base 91 2 (Y a0 n0 c0) (ZU LS) (LS.flatMap bF))(h:n0=ZU LS)(n:W.ownsRow base 95 2 (Y a1 n1 c1) n1 (L.flatMap toV))(o:n1=ZU L)(l:ZU LS<=300)(h1:ZU L<=300)
  (q:∀r∈L,∃g,r.2.1=T (Q g 0 Z)/\base<=g/\Q_ W g 0 r.1.h r.1.u) (p:∀r∈L,r.1.h<=300/\∀j,j<r.1.h->(r.1.u j).s.size<=5000):HSp base W a0 n0 (aV LS) a1 n1 (aW (L.map (·.1))):=by
 subst h o;refine⟨λV b=>⟨kZ (fk t b),vK (fk n b) λr m=>?_⟩,l,h1,λi hi=>?_⟩;{obtain⟨g,e,hb,f⟩:=q r m;rw[e];exact(f.p b.1 (b.2 g hb f.1)).sl}
 ·have e:aW (L.map (·.1)) i=L[i].1:=by simp[aW,hi]
  rw[e];exact p _ (gz hi)
def ko{c:Nat}(h:W.ownsRow b e size (Y a n c) n f)(hn:0<n):∃g,a=T (Q g 0 Z):=by obtain⟨g,c',e⟩:=ey h hn;simp at e;exact⟨g,e.1⟩
end
