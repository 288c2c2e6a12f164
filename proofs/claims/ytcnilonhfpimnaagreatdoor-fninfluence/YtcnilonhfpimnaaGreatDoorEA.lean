import Derived.Test.YtcnilonhfpimnaaGreatDoorFQ
import Derived.Test.YtcnilonhfpimnaaGreatDoorFC
set_option linter.all false
open Go renaming Addr.mk->T,Value.slice->Z,Value.string->U,Value.int->J,Obj.cells->N,IntKind.i64->I,World->E,Value->ZB,TypeId->ZK,World.heap->B,World.ownsRow->ZW,World.alloc->ZU,World.cell?->ZV
open Option renaming none->Y,some->Q
open Array renaming size->A
open List renaming length->z
namespace Go.Proofs.YtcnilonhfpimnaaGreatDoor.Vp
open RowKit
variable {w V:E}{base n j X size b n0 n1 g lo base':Nat}{R RT:List TR}{e t:ZK}{a0 a1 a:O_}{LS:List Source}{x:Target}{f f1:Nat->Target}{r:TR}{f0:Nat->Source}{L:List I3}{nm:F_}
def TRow.ac{f:E}{v:ZB}(h:TRow w base v R)(b:zt X w f)(hX:X<base):TRow f base v R:=by refine⟨gE h.u b hX,λr i=>?_,h.up⟩;obtain⟨h1,⟨F,h2⟩,g,j⟩:=h.q r i;have e:=b.p r.2.1 h1.1 (by omega);exact⟨h1.p b.size e,⟨F,h2.p b.size e⟩,g.p e,j⟩
def TRow.more2{m p:E}{c:Nat}{v t:ZB}(h:TRow m base v R)(ZZ:∀r∈R,r.2.1≠g)(l:base<=g)
  (s:ZW m base 102 3 (Z (Q (T g 0 Y)) x.h c) x.h (bZ x.q x.h)) (q:ZW p base 86 2 t (z R+1) (R.flatMap aZ++aZ (x,g,c))) (f:m.grownBy p v.ownBlock):TRow p base t (R++[(x,g,c)]):=by
 have n:∀k,Qk m k 102->Q k≠v.ownBlock:=λk u e=>fc u (h.type k e.c) (by decide) rfl;refine⟨by simpa using q,λr i=>?_,?_⟩;{rcases p8.1 i with i|i;{obtain⟨h1,⟨F,h2⟩,j,ZX⟩:=h.q r i;have e:=f.p r.2.1 h1.1 (n _ j);exact⟨h1.p f.size e,⟨F,h2.p f.size e⟩,j.p e,ZX⟩};{simp at i;subst i;obtain⟨h1,F,h2⟩:=kY s;have j:=jH s;have e:=f.p g h1.1 (n _ j);exact⟨h1.p f.size e,⟨F,h2.p f.size e⟩,j.p e,l⟩}};{rw[PD];refine⟨h.up,by simp,λa y b o=>?_⟩;simp at o;subst o;exact ZZ a y}
structure SpG (LS:List Source)(RT:List TR):Prop where
 s:∀x∈LS,x.e.size<=5000/\x.H.size<=5000
 t:∀r∈RT,r.1.e.size<=5000/\(1<=r.1.h/\r.1.h<=200)/\∀j,j<r.1.h->(r.1.q j).s.size<=5000
def H7:SpG [] []:=⟨λ_ h=>absurd h nj,λ_ h=>absurd h nj⟩
def SpG.addS (h:SpG LS RT){x:Source}(h1:x.e.size<=5000)(h2:x.H.size<=5000):SpG (LS++[x]) RT:=by
 refine⟨λy b=>?_,h.t⟩;rcases p8.1 b with b|b;{exact h.s y b};{rw[j4.1 b];exact⟨h1,h2⟩}
def SpG.addT (h:SpG LS RT)(h1:r.1.e.size<=5000)(h2:1<=r.1.h/\r.1.h<=200)(f:∀j,j<r.1.h->(r.1.q j).s.size<=5000):SpG LS (RT++[r]):=by
 refine⟨h.s,λy b=>?_⟩;rcases p8.1 b with b|b;{exact h.t y b};{rw[j4.1 b];exact⟨h1,h2,f⟩}
structure SpB (rb:Nat)(W:E)(v0 v1:ZB)(LS:List Source)(RT:List TR):Prop where
 res:W.heap[rb]?=Q (N #[Z Y 0 0,Z Y 0 0] 29 (0,0))
 ab:W.heap[rb+1]?=Q (N #[v0,v1] 29 (0,0))
 src:ZW W (rb+2) 82 2 v0 (z LS) (LS.flatMap bF)
 w:TRow W (rb+2) v1 RT
def qJ{j:E}{v:ZB}{row:Option Nat}(h:TRow w base v R)(b:w.grownBy j row)(g:∀k,row=Q k->Qk w k 82):TRow j base v R:=by
 refine⟨h.u.kept b ?_,λr i=>?_,h.up⟩
 ·cases hv:v.ownBlock with
  |none=>exact .inl rfl
  |some k=>exact .inr λe=>fc (h.type k hv) (g k e.c) (by decide) rfl
 {obtain⟨h1,⟨F,h2⟩,f,m⟩:=h.q r i;have e:=b.p r.2.1 h1.1 (λl=>fc f (g _ l.c) (by decide) rfl);exact⟨h1.p b.size e,⟨F,h2.p b.size e⟩,f.p e,m⟩}
def eo{v:ZB}{j:List ZB}(h:ZW w base e size v n j):∀k,v.ownBlock=Q k->Qk w k e:=by
 intro k b;rcases h.2 with⟨rfl,_⟩|⟨g,j_,f,rfl,_,i,_⟩
 {cases b}
 ·cases b
  exact⟨f,i⟩
section
variable {W W':E}{R rb:Nat}{v0 v1:ZB}{LS:List Source}{RT:List TR}
def SpB.lt (h:SpB rb W v0 v1 LS RT):rb+1<A (B W):=aj h.ab
def SpB.cells (h:SpB rb W v0 v1 LS RT):ZV W (T (rb+1) 0 Y)=Q v0/\ZV W (T (rb+1) 1 Y)=Q v1:=by have hb:=h.ab;refine⟨?_,?_⟩<;>simp[World.cell?,hb]
def SpB.aa (h:SpB rb W v0 v1 LS RT)(hb:Below (A (B W)) W W'):SpB rb W' v0 v1 LS RT:=
 have hl:=h.lt
 ⟨(hb.p rb (by omega)).k h.res,(hb.p (rb+1) h.lt).k h.ab,K_ h.src hb ly,h.w.aa hb ly⟩
def SpB.ac (h:SpB rb W v0 v1 LS RT)(b:zt R W W')(hR:R<rb):SpB rb W' v0 v1 LS RT:=by have hl:=h.lt;exact⟨(b.p rb (by omega) (by omega)).k h.res,(b.p (rb+1) h.lt (by omega)).k h.ab,gE h.src b (by omega),h.w.ac b (by omega)⟩
def H9 (w:E):SpB (A (B w)) (ZU (ZU w (N #[Z Y 0 0,Z Y 0 0] 29)) (N #[Z Y 0 0,Z Y 0 0] 29)) (Z Y 0 0) (Z Y 0 0) [] []:=by
 have hz:A (B (ZU w (N #[Z Y 0 0,Z Y 0 0] 29)))=A (B w)+1:=by simp
 refine⟨?_,?_,CP _ _ _ _,dq _ _⟩;{exact(((a8 (A (B w)+1) _).alloc (by rw[hz];exact p7 _) _).p (A (B w)) (eL _)).k (gM w _)};{have h2:=gM (ZU w (N #[Z Y 0 0,Z Y 0 0] 29)) (N #[Z Y 0 0,Z Y 0 0] 29);rw[hz] at h2;exact h2}
def SpB.addS{x:Source}{b:ZB}(h:SpB rb W v0 v1 LS RT)(g:W'.ownsRow (rb+2) 82 2 b (z LS+1) (LS.flatMap bF++bF x))(i:W.grownBy W' v0.ownBlock):SpB rb (W'.setCell (T (rb+1) 0 Y) b) b v1 (LS++[x]) RT/\Below (rb+1) W (W'.setCell (T (rb+1) 0 Y) b):=by
 have hlt:=h.lt;have l:Below (rb+2) W W':=(a8 (rb+2) W).grown i (by omega) λk f=>(h.src.lt k f).1;have m:Below (rb+1) W (W'.setCell (T (rb+1) 0 Y) b):=(l.P (BV _)).setCell (p:=(T (rb+1) 0 Y)) ly b;refine⟨⟨(m.p rb (eL _)).k h.res,?_,?_,?_⟩,m⟩;{exact cH ((l.p (rb+1) (eL _)).k h.ab) b};{have h2:=aH (R:=rb+1) (j:=0) g (eL _) b;rw[cM,KE];simpa using h2};{exact(qJ h.w i λk f=>eo h.src k f).set (eL _) b}
def SpB.addT{c:Nat}{b:ZB}(h:SpB rb W v0 v1 LS RT)(q:∀r∈RT,r.2.1≠g)(l:W.ownsRow (rb+2) 102 3 (Z (Q (T g 0 Y)) x.h c) x.h (bZ x.q x.h))
  (i:W'.ownsRow (rb+2) 86 2 b (z RT+1) (RT.flatMap aZ++aZ (x,g,c))) (f:W.grownBy W' v1.ownBlock):SpB rb (W'.setCell (T (rb+1) 1 Y) b) v0 b LS (RT++[(x,g,c)])/\Below (rb+1) W (W'.setCell (T (rb+1) 1 Y) b):=by
 have hlt:=h.lt;have hb:rb+2<=g:=(l.lt g rfl).1;have m:Below (rb+2) W W':=(a8 (rb+2) W).grown f (by omega) λk o=>(h.w.u.lt k o).1;have n:Below (rb+1) W (W'.setCell (T (rb+1) 1 Y) b):=(m.P (BV _)).setCell (p:=(T (rb+1) 1 Y)) ly b;refine⟨⟨(n.p rb (eL _)).k h.res,?_,?_,?_⟩,n⟩;{exact cH ((m.p (rb+1) (eL _)).k h.ab) b}
 ·refine aH (R:=rb+1) (j:=1) (h.src.kept f ?_) (eL _) b;cases hv:v0.ownBlock with
  |none=>exact .inl rfl
  |some k=>exact .inr λe=>fc (eo h.src k hv) (h.w.type k e.c) (by decide) rfl
 {exact(h.w.more2 q hb l i f).set (eL _) b}
end
def Agr (base:Nat)(w V:E):Prop:=A (B w)<=A (B V)/\∀k,base<=k->k<A (B w)->V.heap[k]?=w.heap[k]?
def Agr.refl (base:Nat)(w:E):Agr base w w:=⟨p7 _,λ_ _ _=>rfl⟩
def Agr.k{v u:E}(h:Agr base w v)(k:Agr base v u):Agr base w u:=
 ⟨nX h.1 k.1,λi h1 h2=>(k.2 i h1 (lj h2 h.1)).k (h.2 i h1 h2)⟩
def zt.agr{R:Nat}(h:zt R w V)(hR:R<base):Agr base w V:=⟨h.size,λk h1 h2=>h.p k h2 (by omega)⟩
def de{ZY:Nat}(h:Below ZY w V)(hB:A (B w)<=ZY):Agr base w V:=⟨h.size,λk _ h2=>h.p k (by omega)⟩
def Agr.P{f:Nat}(h:Agr b w V)(hb:b<=f):Agr f w V:=⟨h.1,λk h1 h2=>h.2 k (by omega) h2⟩
def fk{v:ZB}{i:List ZB}(h:ZW w base e size v n i)(j:Agr base w V):ZW V base e size v n i:=by
 refine⟨h.1,?_⟩;rcases h.2 with h1|⟨g,j_,b,rfl,hb,f,h2⟩
 {exact .inl h1};{exact .inr ⟨g,j_,b,rfl,hb,(j.2 g hb (aj f)).k f,h2⟩}
def TRow.agr{v:ZB}(h:TRow w base v R)(b:Agr base w V):TRow V base v R:=by refine⟨fk h.u b,λr g=>?_,h.up⟩;obtain⟨h1,⟨F,h2⟩,i,f⟩:=h.q r g;have e:=b.2 r.2.1 f h1.1;exact⟨h1.p b.1 e,⟨F,h2.p b.1 e⟩,i.p e,f⟩
structure HSp (base:Nat)(w:E)(a0:O_)(n0:Nat)(f0:Nat->Source)(a1:O_)(n1:Nat)(f1:Nat->Target):Prop where
 sl:∀V,Agr base w V->Qy V a0 n0 f0/\Qx V a1 n1 f1
 hn0:n0<=300
 hn1:n1<=300
 aq:∀i,i<n1->(f1 i).h<=300/\∀j,j<(f1 i).h->((f1 i).q j).s.size<=5000
def HSp.agr (h:HSp base w a0 n0 f0 a1 n1 f1)(f:Agr base w V):HSp base V a0 n0 f0 a1 n1 f1:=
 ⟨λZN b=>h.sl ZN (f.k b),h.hn0,h.hn1,h.aq⟩
def HSp.P{f:Nat}(h:HSp b w a0 n0 f0 a1 n1 f1)(hb:f<=b):HSp f w a0 n0 f0 a1 n1 f1:=
 ⟨λZN g=>h.sl ZN (g.P hb),h.hn0,h.hn1,h.aq⟩
def fJ{c0 c1:Nat}(h:ZW w base 82 2 (Z a0 n0 c0) (z LS) (LS.flatMap bF))(f:n0=z LS)(n:TRow w base (Z a1 n1 c1) RT)(l:n1=z RT)(m:z LS<=300)(h1:z RT<=300)
  (g:∀r∈RT,r.1.h<=300/\∀j,j<r.1.h->(r.1.q j).s.size<=5000):HSp base w a0 n0 (aV LS) a1 n1 (aW (RT.map (·.1))):=by
 subst f l;refine⟨λV b=>⟨kZ (fk h b),uR (n.agr b)⟩,m,h1,λi hi=>?_⟩;have e:aW (RT.map (·.1)) i=RT[i].1:=by simp[aW,hi]
 rw[e];exact g _ (gz hi)
def DH (w:E)(R q:Nat)(e:Ending)(b:E):Prop:=∃(a0:O_) (n0 c0:Nat) (f0:Nat->Source) (a1:O_) (n1 c1:Nat) (f1:Nat->Target),e=.returned (.agg #[Z a0 n0 c0,Z a1 n1 c1])/\HSp (A (B w)) b a0 n0 f0 a1 n1 f1/\∃f:Nat,f<=q/\Rd b R f/\zt R w b
def qK (L:List I3):i3L L=bZ (cY L) (z L):=by
 have e:(List.range (z L)).map (cY L)=L.map λx=>(⟨x.1,⟨x.2.1.toArray⟩,x.2.2⟩:Ins):=by
  refine WO (by simp) λi h1 h2=>?_;have hi:i<z L:=by simpa using h2
  simp[cY,hi]
 rw[bZ,e,UW];rfl
structure PrG (base:Nat)(W:E)(RT:List TR)(b g c n:Nat)(f:Nat->Ins):Prop where
 ad:PB W b (Z (Q (T g 0 Y)) n c)
 u:ZW W base 102 3 (Z (Q (T g 0 Y)) n c) n (bZ f n)
 new:∀r∈RT,r.2.1≠g
 lo:base<=b
 num:1<=n/\n<=200
 sz:∀j,j<n->(f j).s.size<=5000
section
variable {W W':E}{base R b g c n:Nat}{f:Nat->Ins}{RT:List TR}
def PrG.aa (h:PrG base W RT b g c n f){ZY:Nat}(hb:Below ZY W W')(i:A (B W)<=ZY):PrG base W' RT b g c n f:=
 ⟨h.ad.aa hb (lj h.ad.lt i),K_ h.u hb i,h.new,h.lo,h.num,h.sz⟩
def PrG.ac (h:PrG base W RT b g c n f)(i:zt R W W')(hR:R<base):PrG base W' RT b g c n f:=
 ⟨(i.p b h.ad.lt (by have:=h.lo;omega)).k h.ad,gE h.u i hR,h.new,h.lo,h.num,h.sz⟩
def TRow.ltg{base:Nat}{v:ZB}{R:List TR}(h:TRow w base v R):∀r∈R,r.2.1<A (B w):=λr b=>(h.q r b).1.1
def TRow.atk{base c k:Nat}{R:List TR}(h:TRow w base (Z a (z R) c) R)(l:k<z R):∃(b:Nat) (r:TR),a=Q (T b 0 Y)/\b<A (B w)/\r∈R/\ZV w (T b (k*2) Y)=Q (U r.1.e)/\ZV w (T b (k*2+1) Y)=Q (Z (Q (T r.2.1 0 Y)) r.1.h r.2.2)/\SlIns w (Q (T r.2.1 0 Y)) r.1.h r.1.q:=by
 obtain⟨g,c',e⟩:=ey h.u (by omega);simp at e;obtain⟨rfl,rfl⟩:=e;obtain⟨r,i,f⟩:=xY l;refine⟨g,r,rfl,(cV h.u).2,f,?_,?_,(h.q r f).1.sl⟩;{exact(bA h.u (j:=k*2) (u:=U r.1.e) (by have:=cT aZ 2 (λ_=>rfl) R k 0 (by omega) _ i;simpa[aZ] using this)).1};{exact(bA h.u (j:=k*2+1) (u:=Z (Q (T r.2.1 0 Y)) r.1.h r.2.2) (by have:=cT aZ 2 (λ_=>rfl) R k 1 (by omega) _ i;simpa[aZ] using this)).1}
def iI (f:∀i∈L,i.2.1.length<=5000):∀j,j<z L->(cY L j).s.size<=5000:=by
 intro j b;have e:cY L j=⟨L[j].1,⟨L[j].2.1.toArray⟩,L[j].2.2⟩:=by simp[cY,b]
 rw[e];show L[j].2.1.toArray.size<=5000;simpa using f _ (gz b)
def Ct (f:IR W lo g c L)(h:base<=lo)(b:∀r∈RT,r.2.1<lo)(j:base<=A (B W))(h1:1<=z L/\(z L)<=200)(m:∀i∈L,i.2.1.length<=5000):PrG base (ZU W (N #[Z (Q (T g 0 Y)) (z L) c] 37)) RT (A (B W)) g c (z L) (cY L):=by
 have hg:=f.lt;refine⟨gM W _,?_,λr l e=>by have:=b r l;omega,j,h1,iI m⟩;have h2:W.ownsRow base 102 3 (Z (Q (T g 0 Y)) (z L) c) (z L) (bZ (cY L) (z L)):=by rw[<-qK];exact aE f h
 exact K_ h2 ((BS W).alloc ly _) ly
def PrG.put{l c2 i:Nat}{o:Nat->Ins}(h:PrG base W RT b g c n f)(p:W.ownsRow lo 102 3 (Z (Q (T l 0 Y)) i c2) i (bZ o i))(ZZ:base<=lo)(q:∀r∈RT,r.2.1<lo)(h1:1<=i/\i<=200)(ZY:∀j,j<i->(o j).s.size<=5000):PrG base (W.setCell (T b 0 Y) (Z (Q (T l 0 Y)) i c2)) RT b l c2 i o:=by
 have y:=(World.ownsRow.lt p l rfl).1;refine⟨h.ad.set _,?_,λr ZT e=>by have:=q r ZT;omega,h.lo,h1,ZY⟩;have t:b≠l:=by intro e;subst e;obtain⟨m,y⟩:=jH p;have:=h.ad.c.k y;cases this
 refine aE ?_ ZZ;rcases p with⟨x,h2|⟨C,j_,m,ZX,hb,u,D⟩⟩;{exact⟨x,.inl h2⟩}
 ·refine⟨x,.inr ⟨C,j_,m,ZX,hb,?_,D⟩⟩;cases ZX
  exact(qh W (T b 0 Y) _ l (λe=>t e.c)).k u
def SpB.putP{rb:Nat}{v0 v1:ZB}{v:ZB}(h:SpB rb W v0 v1 LS RT)(ZY:PB W b v)(hb:rb+2<=b)(u:ZB):SpB rb (W.setCell (T b 0 Y) u) v0 v1 LS RT:=by
 have far:∀k,k≠b->(W.setCell (T b 0 Y) u).heap[k]?=W.heap[k]?:=λk p=>qh W (T b 0 Y) u k (by simpa using p);have m:A (B W)<=(W.setCell (T b 0 Y) u).heap.size:=by simp[World.setCell]
 have j:∀k e,Qk W k e->e≠37->k≠b:=by
  intro k e ⟨f,p⟩ o t;subst t;have:=ZY.c.k p;cases this
  exact o rfl
 have g:∀{e:ZK} {size n:Nat} {x:ZB} {q:List ZB},ZW W (rb+2) e size x n q->e≠37->(W.setCell (T b 0 Y) u).ownsRow (rb+2) e size x n q:=by
  intro e size n x q ZX o;rcases ZX with⟨y,h2|⟨s,j_,f,t,ZZ,l,i⟩⟩;{exact⟨y,.inl h2⟩};{exact⟨y,.inr ⟨s,j_,f,t,ZZ,(far s (j s e ⟨f,l⟩ o)).k l,i⟩⟩}
 refine⟨(far rb (by omega)).k h.res,(far (rb+1) (by omega)).k h.ab,g h.src (by decide),g h.w.u (by decide),λr C=>?_,h.w.up⟩;obtain⟨h1,⟨F,h2⟩,i,D⟩:=h.w.q r C;have e:=far r.2.1 (j r.2.1 102 i (by decide));exact⟨h1.p m e,⟨F,h2.p m e⟩,i.p e,D⟩
def I8 (nm tx:F_)(ZZ:Int)(i:Nat):Ins:=([⟨1,nm,0⟩,⟨12,⟨#[]⟩,0⟩,⟨1,tx,0⟩,⟨2,⟨#[]⟩,0⟩,⟨3,⟨#[]⟩,ZZ⟩,⟨15,⟨#[]⟩,0⟩]:List Ins).getD i ⟨0,⟨#[]⟩,0⟩
def Cu{tx:F_}{ZZ:Int}(h1:nm.size<=5000)(h2:tx.size<=5000):∀j,j<6->(I8 nm tx ZZ j).s.size<=5000:=by
 have b:(⟨#[]⟩:F_).size<=5000:=DW _;intro j f;match j,f with
 |0,_=>exact h1
 |1,_=>exact b
 |2,_=>exact h2
 |3,_=>exact b
 |4,_=>exact b
 |5,_=>exact b
 |k+6,h=>exact absurd h (by omega)
abbrev rM (nm tx:F_)(ZZ:Int):Array ZB:=#[J I 1,U nm,J I 0,J I 12,U ⟨#[]⟩,J I 0,J I 1,U tx,J I 0,J I 2,U ⟨#[]⟩,J I 0,J I 3,U ⟨#[]⟩,J I ZZ,J I 15,U ⟨#[]⟩,J I 0]
def PrG.six (h:PrG base W RT b g c n f)(i:∀r∈RT,r.2.1<A (B W))(l:base<=A (B W))(nm tx:F_)(ZZ:Int)(h1:nm.size<=5000)(h2:tx.size<=5000):PrG base ((W.setCell (T b 0 Y) (Z (Q (T (A (B W)) 0 Y)) 6 6)).alloc (N (rM nm tx ZZ) 102)) RT b (A (B W)) 6 6 (I8 nm tx ZZ):=by
 have hz:(W.setCell (T b 0 Y) (Z (Q (T (A (B W)) 0 Y)) 6 6)).heap.size=A (B W):=by simp
 have ZX:=(a8 (A (B W)) (W.setCell (T b 0 Y) (Z (Q (T (A (B W)) 0 Y)) 6 6))).alloc (by rw[hz];exact p7 _) (N (rM nm tx ZZ) 102);refine⟨(h.ad.set _).aa ZX h.ad.lt,?_,λr m e=>by have:=i r m;omega,h.lo,⟨by omega,by omega⟩,Cu h1 h2⟩;have j:=gM (W.setCell (T b 0 Y) (Z (Q (T (A (B W)) 0 Y)) 6 6)) (N (rM nm tx ZZ) 102);rw[hz] at j;exact⟨rfl,.inr ⟨A (B W),6,rM nm tx ZZ,rfl,l,j,p7 _,by unfold maxLen;omega,rfl,rfl⟩⟩
end
def dJ{v:ZB}{b:List ZB}{m:Array ZB}{fz:Nat × Nat}(h:ZW w base e size v n b)(hX:w.heap[X]?=Q (N m t fz))(p:t≠e)(u:ZB):(w.setCell (T X j Y) u).ownsRow base e size v n b:=by
 rcases h with⟨i,h2|⟨g,j_,f,q,hb,l,r⟩⟩;{exact⟨i,.inl h2⟩}
 ·refine⟨i,.inr ⟨g,j_,f,q,hb,(qh w (T X j Y) u g ?_).k l,r⟩⟩;intro o;obtain rfl:g=X:=o;have:=hX.c.k l;cases this
  exact p rfl
def kN{v:ZB}{f:Array ZB}{fz:Nat × Nat}(h:TRow w base v R)(hX:w.heap[X]?=Q (N f t fz))(l:t≠86)(hi:t≠102)(u:ZB):TRow (w.setCell (T X j Y) u) base v R:=by
 refine⟨dJ h.u hX l u,λr m=>?_,h.up⟩;obtain⟨h1,⟨F,h2⟩,b,n⟩:=h.q r m
 have e:(w.setCell (T X j Y) u).heap[r.2.1]?=w.heap[r.2.1]?:=qh w (T X j Y) u r.2.1 (by
  intro i;obtain rfl:r.2.1=X:=i;obtain⟨cur,g⟩:=b;have:=hX.c.k g;cases this
  exact hi rfl)
 exact⟨h1.p (by simp) e,⟨F,h2.p (by simp) e⟩,b.p e,n⟩
def gw{f:E}{v:ZB}{b:Array ZB}{fz:Nat × Nat}(i:w.grownBy f v.ownBlock)(h:∀k,v.ownBlock=Q k->Qk w k e)(hX:w.heap[X]?=Q (N b t fz))(j:t≠e):f.heap[X]?=Q (N b t fz):=by
 refine(i.p X (aj hX) λg=>?_).k hX;obtain⟨cur,l⟩:=h X g.c;have:=hX.c.k l;cases this
 exact j rfl
def GX (RT:List TR):Prop:=∀r∈RT,r.1.h<=300/\∀j,j<r.1.h->(r.1.q j).s.size<=5000
def GX.add (h:GX RT)(h1:r.1.h<=300)(h2:∀j,j<r.1.h->(r.1.q j).s.size<=5000):GX (RT++[r]):=by
 intro y b;rcases p8.1 b with b|b;{exact h y b};{rw[j4.1 b];exact⟨h1,h2⟩}
def yt{t:F_}(hM:R.map (·.1)=Qq f t n)(b:∀i,i<n->(f i).h<=300/\∀j,j<(f i).h->((f i).q j).s.size<=5000):GX R:=by
 intro r g;have h1:r.1∈Qq f t n:=by rw[<-hM];exact U2 g
 have h2:=(U9.1 h1).1;obtain⟨i,hi,e⟩:=NN.1 h2;rw[<-e];exact b i (IH.1 hi)
def Ia{t:F_}(hM:R.map (·.1)=Qq f t n)(b:∀i,i<n->1<=(f i).h/\(f i).h<=200):∀r∈R,1<=r.1.h/\r.1.h<=200:=by
 intro r g;have h1:r.1∈Qq f t n:=by rw[<-hM];exact U2 g
 have h2:=(U9.1 h1).1;obtain⟨i,hi,e⟩:=NN.1 h2;rw[<-e];exact b i (IH.1 hi)
def qL{t:F_}(hM:R.map (·.1)=Qq f t n):z R<=n:=by
 have h1:z R=(Qq f t n).length:=by rw[<-hM,PJ]
 have:=WF (λx:Target=>!(x.e.toList == t.toList)) ((List.range n).map f);rw[h1];simpa[Qq] using this
def lsI (L:List Ins)(i:Nat):Ins:=L.getD i ⟨0,⟨#[]⟩,0⟩
def vJ{L:List Ins}(h:∀x∈L,x.s.size<=5000):∀j,j<z L->(lsI L j).s.size<=5000:=by
 intro j b;have e:lsI L j=L[j]:=by simp[lsI,b]
 rw[e];exact h _ (gz b)
def mC{ZZ:Nat}(hz:A (B w)=ZZ)(x y:ZB)(t:ZK):∀j u,[x,y][j]?=Q u->(ZU w (N #[x,y] t)).cell? (((T ZZ 0 Y):Addr).add j)=Q u:=by subst hz;exact df w x y t
def iy:List Ins:=[⟨1,⟨#[107]⟩,0⟩,⟨15,⟨#[]⟩,0⟩]
def iZ (b:F_):List Ins:=[⟨1,b,0⟩,⟨12,⟨#[]⟩,0⟩,⟨15,⟨#[]⟩,0⟩]
def rN (w:E)(hb:base<=A (B w)):(ZU w (N #[J I 1,U ⟨#[107]⟩,J I 0,J I 15,U ⟨#[]⟩,J I 0] 102)).ownsRow base 102 3 (Z (Q (T (A (B w)) 0 Y)) 2 2) 2 (bZ (lsI iy) 2):=
 ⟨rfl,.inr ⟨A (B w),2,_,rfl,hb,gM w _,p7 _,by unfold maxLen;omega,rfl,rfl⟩⟩
def Cv (w:E)(b:F_)(hb:base<=A (B w)):(ZU w (N #[J I 1,U b,J I 0,J I 12,U ⟨#[]⟩,J I 0,J I 15,U ⟨#[]⟩,J I 0] 102)).ownsRow base 102 3 (Z (Q (T (A (B w)) 0 Y)) 3 3) 3 (bZ (lsI (iZ b)) 3):=
 ⟨rfl,.inr ⟨A (B w),3,_,rfl,hb,gM w _,p7 _,by unfold maxLen;omega,rfl,rfl⟩⟩
def pD:∀j,j<2->(lsI iy j).s.size<=5000:=vJ (L:=iy) (by decide)
def Ag{b:F_}(h:b.size<=5000):∀j,j<3->(lsI (iZ b) j).s.size<=5000:=vJ (L:=iZ b) λx f=>by
 simp only[iZ,vG,nj,QW] at f;rcases f with rfl|rfl|rfl
 ·exact h
 ·exact DW _
 ·exact DW _
def gU{c:Nat}{b:List ZB}(h:ZW w base e size (Z (Q (T g 0 Y)) n c) n b)(u:ZB):(w.setCell (T g j Y) u).ownsRow base e size (Z (Q (T g 0 Y)) n c) n (b.set j u):=by
 rcases h with⟨m,⟨h2,_⟩|⟨g',j_,f,q,hb,o,r,p,l,i⟩⟩;{cases h2}
 ·cases q
  refine⟨by rw[NJ];exact m,.inr ⟨g,c,f.setIfInBounds j u,rfl,hb,cH o u,r,p,by rw[Array.size_setIfInBounds];exact l,?_⟩⟩;rw[<-i,R8,YV]
def FC (h:∀r∈RT,Qj w r.2.1 0 r.1.h r.1.q/\(∃F,Cells w r.2.1 0 (r.1.h*3) F)/\Qk w r.2.1 102/\base<=r.2.1)(m:Qk w b 86)(u:ZB):∀r∈RT,Qj (w.setCell (T b j Y) u) r.2.1 0 r.1.h r.1.q/\(∃F,Cells (w.setCell (T b j Y) u) r.2.1 0 (r.1.h*3) F)/\Qk (w.setCell (T b j Y) u) r.2.1 102/\base<=r.2.1:=by
 intro r i;obtain⟨h1,⟨F,h2⟩,g,l⟩:=h r i
 have e:(w.setCell (T b j Y) u).heap[r.2.1]?=w.heap[r.2.1]?:=qh w (T b j Y) u r.2.1 (by
  intro f;have f:r.2.1=b:=f
  exact fc g (f ▸ m) (by decide) rfl)
 exact⟨h1.p (by simp) e,⟨F,h2.p (by simp) e⟩,g.p e,l⟩
def fl (hX:X<base)(u:ZB):Agr base w (w.setCell (T X j Y) u):=
 ⟨by simp,λk h1 _=>qh w (T X j Y) u k (by intro e;have e:k=X:=e;omega)⟩
abbrev TO:=Target × O_ × Nat
def toV (r:TO):List ZB:=[U r.1.e,Z r.2.1 r.1.h r.2.2]
def upO (r:TR):TO:=(r.1,Q (T r.2.1 0 Y),r.2.2)
def pE (RT:List TR):RT.flatMap aZ=(RT.map upO).flatMap toV:=by rw[UW];rfl
def vK{c:Nat}{L:List TO}(h:ZW w base 86 2 (Z a (z L) c) (z L) (L.flatMap toV))(l:∀r∈L,SlIns w r.2.1 r.1.h r.1.q):Qx w a (z L) (aW (L.map (·.1))):=by
 by_cases hn:z L=0;{exact .inl hn}
 ·obtain⟨g,c',e⟩:=ey h (by omega);simp at e;obtain⟨rfl,rfl⟩:=e;refine .inr ⟨g,0,rfl,(cV h).2,λi hi=>?_⟩;have b:L[i]?=Q L[i]:=gq hi;have f:aW (L.map (·.1)) i=L[i].1:=by simp[aW,hi]
  rw[f];refine⟨?_,L[i].2.1,L[i].2.2,?_,l _ (gz hi)⟩;{have:=(bA h (j:=i*2) (u:=U L[i].1.e) (by have:=cT toV 2 (λ_=>rfl) L i 0 (by omega) _ b;simpa[toV] using this)).1;rwa[show 0+i*2=i*2 by omega]};{have:=(bA h (j:=i*2+1) (u:=Z L[i].2.1 L[i].1.h L[i].2.2) (by have:=cT toV 2 (λ_=>rfl) L i 1 (by omega) _ b;simpa[toV] using this)).1;rwa[show 0+i*2+1=i*2+1 by omega]}
structure SpX (rr xb base:Nat)(W:E)(v0 v1:ZB)(LS:List Source)(RT:List TR):Prop where
 res:W.heap[rr]?=Q (N #[Z Y 0 0,Z Y 0 0] 29 (0,0))
 ab:W.heap[xb]?=Q (N #[v0,v1] 29 (0,0))
 lo:rr<base
 hi:base<=xb
 src:ZW W base 82 2 v0 (z LS) (LS.flatMap bF)
 w:TRow W base v1 RT
section
variable {W W':E}{R rr xb base:Nat}{v0 v1:ZB}{LS:List Source}{RT:List TR}
def SpX.lt (h:SpX rr xb base W v0 v1 LS RT):xb<A (B W):=aj h.ab
def SpX.cells (h:SpX rr xb base W v0 v1 LS RT):ZV W (T xb 0 Y)=Q v0/\ZV W (T xb 1 Y)=Q v1:=by have hb:=h.ab;refine⟨?_,?_⟩<;>simp[World.cell?,hb]
def BxS (v0 v1:ZB)(xb:Nat)(V:E):Prop:=V.heap[xb]?=Q (N #[v0,v1] 29 (0,0))/\ZV V (T xb 0 Y)=Q v0
def BxT (v0 v1:ZB)(xb:Nat)(V:E):Prop:=V.heap[xb]?=Q (N #[v0,v1] 29 (0,0))/\ZV V (T xb 1 Y)=Q v1
def i8 (h:W.heap[xb]?=Q (N #[v0,v1] 29 (0,0))):BxS v0 v1 xb W:=⟨h,by simp[World.cell?,h]⟩
def vL (h:W.heap[xb]?=Q (N #[v0,v1] 29 (0,0))):BxT v0 v1 xb W:=⟨h,by simp[World.cell?,h]⟩
def SpX.Qz (h:SpX rr xb base W v0 v1 LS RT)(V:E)(f:∀j,j<A (B W)->Q j≠v0.ownBlock->V.heap[j]?=W.heap[j]?):BxS v0 v1 xb V:=
 i8 ((f xb h.lt λe=>by
  obtain⟨cur,b⟩:=eo h.src _ e.c
  cases h.ab.c.k b).k h.ab)
def SpX.Qq (h:SpX rr xb base W v0 v1 LS RT)(V:E)(f:∀j,j<A (B W)->Q j≠v1.ownBlock->V.heap[j]?=W.heap[j]?):BxT v0 v1 xb V:=
 vL ((f xb h.lt λe=>by
  obtain⟨cur,b⟩:=h.w.type _ e.c
  cases h.ab.c.k b).k h.ab)
def SpX.open (h:SpX rr xb base W v0 v1 LS RT):W.frozen? (T xb 0 Y)=false/\W.frozen? (T xb 1 Y)=false:=by have hb:=h.ab;refine⟨?_,?_⟩<;>simp[World.frozen?,hb]
def SpX.aa (h:SpX rr xb base W v0 v1 LS RT){ZY:Nat}(hb:Below ZY W W')(b:A (B W)<=ZY):SpX rr xb base W' v0 v1 LS RT:=by have hl:=h.lt;have:=h.lo;have:=h.hi;exact⟨(hb.p rr (by omega)).k h.res,(hb.p xb (by omega)).k h.ab,h.lo,h.hi,K_ h.src hb b,h.w.aa hb b⟩
def SpX.ac (h:SpX rr xb base W v0 v1 LS RT)(b:zt R W W')(hR:R<rr):SpX rr xb base W' v0 v1 LS RT:=by have hl:=h.lt;have h1:=h.lo;have h2:=h.hi;exact⟨(b.p rr (by omega) (by omega)).k h.res,(b.p xb (by omega) (by omega)).k h.ab,h1,h2,gE h.src b (by omega),h.w.ac b (by omega)⟩
def SpX.addT{c:Nat}{b:ZB}(h:SpX rr xb base W v0 v1 LS RT)(o:∀r∈RT,r.2.1≠g)(l:W.ownsRow base 102 3 (Z (Q (T g 0 Y)) x.h c) x.h (bZ x.q x.h))
  (j:ZW W' base 86 2 b (z RT+1) (RT.flatMap aZ++aZ (x,g,c))) (f:W.grownBy W' v1.ownBlock):SpX rr xb base (W'.setCell (T xb 1 Y) b) v0 b LS (RT++[(x,g,c)])/\Below base W (W'.setCell (T xb 1 Y) b):=by
 have hlt:=h.lt;have h1:=h.lo;have h2:=h.hi;have hb:base<=g:=(l.lt g rfl).1;have n:Below base W W':=(a8 base W).grown f (by omega) λk q=>(h.w.u.lt k q).1;have m:Below base W (W'.setCell (T xb 1 Y) b):=n.setCell (p:=(T xb 1 Y)) h2 b;have i:W'.heap[xb]?=Q (N #[v0,v1] 29 (0,0)):=gw f h.w.type h.ab (by decide);refine⟨⟨(m.p rr h1).k h.res,cH i b,h1,h2,?_,?_⟩,m⟩
 ·refine dJ (h.src.kept f ?_) i (by decide) b;cases hv:v0.ownBlock with
  |none=>exact .inl rfl
  |some k=>exact .inr λe=>fc (eo h.src k hv) (h.w.type k e.c) (by decide) rfl
 {exact kN (h.w.more2 o hb l j f) i (by decide) (by decide) b}
def SpX.addS{x:Source}{b:ZB}(h:SpX rr xb base W v0 v1 LS RT)(i:ZW W' base 82 2 b (z LS+1) (LS.flatMap bF++bF x))(f:W.grownBy W' v0.ownBlock):SpX rr xb base (W'.setCell (T xb 0 Y) b) b v1 (LS++[x]) RT/\Below base W (W'.setCell (T xb 0 Y) b):=by
 have hlt:=h.lt;have h1:=h.lo;have h2:=h.hi;have n:Below base W W':=(a8 base W).grown f (by omega) λk g=>(h.src.lt k g).1;have m:Below base W (W'.setCell (T xb 0 Y) b):=n.setCell (p:=(T xb 0 Y)) h2 b;have l:W'.heap[xb]?=Q (N #[v0,v1] 29 (0,0)):=gw f (eo h.src) h.ab (by decide);refine⟨⟨(m.p rr h1).k h.res,cH l b,h1,h2,?_,?_⟩,m⟩;{have o:=dJ i l (by decide) (j:=0) b;rw[cM,KE];simpa using o};{exact kN (qJ h.w f λk g=>eo h.src k g) l (by decide) (by decide) b}
def TRow.P{base:Nat}(h:TRow W base v1 RT)(hb:base'<=base):TRow W base' v1 RT:=
 ⟨aE h.u hb,λr b=>by obtain⟨h1,h2,f,h4⟩:=h.q r b;exact⟨h1,h2,f,by omega⟩,h.up⟩
def oD (f:W.heap[rr]?=Q (N #[Z Y 0 0,Z Y 0 0] 29 (0,0)))(b:rr<base)(hb:base<=base')(hz:base<=A (B W))(h:ZW W base' 82 2 v0 (z LS) (LS.flatMap bF))(g:TRow W base' v1 RT):SpX rr (A (B W)) base (ZU W (N #[v0,v1] 29)) v0 v1 LS RT:=by have ZX:=(BS W).alloc ly (N #[v0,v1] 29);exact⟨(ZX.p rr (aj f)).k f,gM W _,b,hz,K_ (aE h hb) ZX ly,(g.P hb).aa ZX ly⟩
def SpX.fin{c0 c1:Nat}(h:SpX rr xb base W (Z a0 n0 c0) (Z a1 n1 c1) LS RT)(b:n0=z LS)(f:n1=z RT)(i:z LS<=300)(h1:z RT<=300)(g:GX RT)(u v:ZB):HSp base ((W.setCell (T rr 0 Y) u).setCell (T rr 1 Y) v) a0 n0 (aV LS) a1 n1 (aW (RT.map (·.1))):=
 fJ (aH (aH h.src h.lo u) h.lo v) b ((h.w.set h.lo u).set h.lo v) f i h1 g
def SpX.addNil{c0 c1:Nat}(h:SpX rr xb base W (Z a0 (z LS) c0) v1 LS RT)(o:ZW W' base 86 2 (Z a1 (z RT+1) c1) (z RT+1) (RT.flatMap aZ++[U nm,Z Y 0 0]))(b:W.grownBy W' v1.ownBlock)(ZT:z LS<=300)(h1:z RT<=299)(K:GX RT):HSp base (W'.setCell (T xb 1 Y) (Z a1 (z RT+1) c1)) a0 (z LS) (aV LS) a1 (z RT+1) (aW (RT.map (·.1)++[⟨nm,0,λ_=>⟨0,⟨#[]⟩,0⟩⟩]))/\(W'.setCell (T xb 1 Y) (Z a1 (z RT+1) c1)).heap[xb]?=Q (N #[Z a0 (z LS) c0,Z a1 (z RT+1) c1] 29 (0,0))/\(W'.setCell (T xb 1 Y) (Z a1 (z RT+1) c1)).heap[rr]?=Q (N #[Z Y 0 0,Z Y 0 0] 29 (0,0))/\Below base W (W'.setCell (T xb 1 Y) (Z a1 (z RT+1) c1)):=by
 have hlt:=h.lt;have ZR:=h.lo;have ZS:=h.hi;have C:Below base W W':=(a8 base W).grown b (by omega) λk M=>(h.w.u.lt k M).1;have ZZ:Below base W (W'.setCell (T xb 1 Y) (Z a1 (z RT+1) c1)):=C.setCell (p:=(T xb 1 Y)) ZS _;have g:W'.heap[xb]?=Q (N #[Z a0 (z LS) c0,v1] 29 (0,0)):=gw b h.w.type h.ab (by decide);have q:(W'.setCell (T xb 1 Y) (Z a1 (z RT+1) c1)).ownsRow base 82 2 (Z a0 (z LS) c0) (z LS) (LS.flatMap bF):=by
  refine dJ (h.src.kept b ?_) g (by decide) _;cases hv:(Value.slice a0 (z LS) c0).ownBlock with
  |none=>exact .inl rfl
  |some k=>exact .inr λe=>fc (eo h.src k hv) (h.w.type k e.c) (by decide) rfl
 have t:=dJ o g (by decide) (j:=1) (Z a1 (z RT+1) c1);refine⟨⟨λV l=>⟨kZ (fk q l),?_⟩,ZT,by omega,λi hi=>?_⟩,cH g _,(ZZ.p rr ZR).k h.res,ZZ⟩
 ·have u:z RT+1=(RT.map upO++[((⟨nm,0,λ_=>⟨0,⟨#[]⟩,0⟩⟩,Y,0):TO)]).length:=by simp
  have x:=fk t l;rw[pE,show(RT.map upO).flatMap toV++[U nm,Z Y 0 0]=(RT.map upO++[((⟨nm,0,λ_=>⟨0,⟨#[]⟩,0⟩⟩,Y,0):TO)]).flatMap toV by rw[KE];rfl,u] at x;have G:=vK x ?_
  ·rw[u];have L:(RT.map upO++[((⟨nm,0,λ_=>⟨0,⟨#[]⟩,0⟩⟩,Y,0):TO)]).map (·.1)=RT.map (·.1)++[⟨nm,0,λ_=>⟨0,⟨#[]⟩,0⟩⟩]:=by rw[NE,List.map_map];rfl
   rw[<-L];exact G
  ·intro r f;rcases p8.1 f with f|f
   ·obtain⟨y,D,rfl⟩:=NN.1 f;obtain⟨ZY,_,s,ZQ⟩:=h.w.q y D;have z1:=b.p y.2.1 ZY.1 (λe=>fc s (h.w.type _ e.c) (by decide) rfl);have z2:=ZY.p b.size z1;have z3:Qj (W'.setCell (T xb 1 Y) (Z a1 (z RT+1) c1)) y.2.1 0 y.1.h y.1.q:=by refine z2.p (by simp) (qh W' (T xb 1 Y) _ y.2.1 ?_);intro n;have n:y.2.1=xb:=n;obtain⟨cur,ZX⟩:=s.p z1;rw[n] at ZX;have:=g.c.k ZX;cases this
    exact(z3.p l.1 (l.2 y.2.1 ZQ z3.1)).sl
   {rw[j4.1 f];exact .inl rfl}
 ·by_cases m:i<z RT
  ·have e:aW (RT.map (·.1)++[⟨nm,0,λ_=>⟨0,⟨#[]⟩,0⟩⟩]) i=RT[i].1:=by simp[aW,List.getElem?_append,m]
   rw[e];exact K _ (gz m)
  ·have e:aW (RT.map (·.1)++[⟨nm,0,λ_=>⟨0,⟨#[]⟩,0⟩⟩]) i=⟨nm,0,λ_=>⟨0,⟨#[]⟩,0⟩⟩:=by
    obtain rfl:i=z RT:=by omega
    simp[aW]
   rw[e];exact⟨by show 0<=300;omega,λj H=>absurd H (NF _)⟩
def SpX.setS{c0:Nat}{LS':List Source}(h:SpX rr xb base W (Z (Q (T b 0 Y)) (z LS) c0) v1 LS RT)(u:ZB)(i:z LS'=z LS)(l:(LS.flatMap bF).set j u=LS'.flatMap bF):SpX rr xb base (W.setCell (T b j Y) u) (Z (Q (T b 0 Y)) (z LS) c0) v1 LS' RT/\Below base W (W.setCell (T b j Y) u):=by
 have hb:=(h.src.lt b rfl).1;obtain⟨cur,g⟩:=eo h.src b rfl;have far:∀(X:Nat) f,W.heap[X]?=Q (N f 29 (0,0))->(W.setCell (T b j Y) u).heap[X]?=Q (N f 29 (0,0)):=by intro X f hX;refine(qh W (T b j Y) u X ?_).k hX;intro e;have e:X=b:=e;subst e;have:=hX.c.k g;cases this
 refine⟨⟨far _ _ h.res,far _ _ h.ab,h.lo,h.hi,?_,kN h.w g (by decide) (by decide) u⟩,(a8 base W).setCell (p:=(T b j Y)) hb u⟩;have h2:=gU h.src (j:=j) u;rw[l] at h2;rw[i];exact h2
def yu{c0 c1:Nat}{L:List TO}(n:W.ownsRow base 82 2 (Z a0 n0 c0) (z LS) (LS.flatMap bF))(h:n0=z LS)(t:W.ownsRow base 86 2 (Z a1 n1 c1) n1 (L.flatMap toV))(o:n1=z L)(p:z LS<=300)(h1:z L<=300)
  (m:∀r∈L,∃g,r.2.1=Q (T g 0 Y)/\base<=g/\Qj W g 0 r.1.h r.1.q) (l:∀r∈L,r.1.h<=300/\∀j,j<r.1.h->(r.1.q j).s.size<=5000):HSp base W a0 n0 (aV LS) a1 n1 (aW (L.map (·.1))):=by
 subst h o;refine⟨λV b=>⟨kZ (fk n b),vK (fk t b) λr q=>?_⟩,p,h1,λi hi=>?_⟩;{obtain⟨g,e,hb,f⟩:=m r q;rw[e];exact(f.p b.1 (b.2 g hb f.1)).sl}
 ·have e:aW (L.map (·.1)) i=L[i].1:=by simp[aW,hi]
  rw[e];exact l _ (gz hi)
def ko{c:Nat}{f:List ZB}(h:W.ownsRow b e size (Z a n c) n f)(hn:0<n):∃g,a=Q (T g 0 Y):=by obtain⟨g,c',e⟩:=ey h hn;simp at e;exact⟨g,e.1⟩
end
