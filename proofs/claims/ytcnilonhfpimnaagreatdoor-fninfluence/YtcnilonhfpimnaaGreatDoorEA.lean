import Derived.Test.YtcnilonhfpimnaaGreatDoorFQ
import Derived.Test.YtcnilonhfpimnaaGreatDoorFC
set_option linter.all false
open Go renaming Addr.mk->T,Value.slice->Y,Value.string->U,Value.int->J,Obj.cells->N,IntKind.i64->I,World->E,Value->ZB,TypeId->ZK,World.heap->B,World.ownsRow->ZX,World.alloc->ZV,World.cell?->ZW,World.setCell->z
open Option renaming none->Z,some->Q
open Array renaming size->A
open List renaming length->ZU
namespace Go.Proofs.YtcnilonhfpimnaaGreatDoor.Vp
open RowKit
variable {w V:E}{base n j X size b n0 n1 g lo base':Nat}{R RT:List TR}{e t:ZK}{a0 a1 a:O_}{LS:List Source}{x:Target}{f f1:Nat->Target}{r:TR}{f0:Nat->Source}{L:List I3}{nm:F_}
def TRow.ac{f:E}{v:ZB}(h:TRow w base v R)(b:zt X w f)(hX:X<base):TRow f base v R:=by refine⟨gE h.u b hX,λr j=>?_,h.up⟩;obtain⟨h1,⟨F,h2⟩,g,i⟩:=h.q r j;have e:=b.p r.2.1 h1.1 (by omega);exact⟨h1.p b.size e,⟨F,h2.p b.size e⟩,g.p e,i⟩
def TRow.more2{m p:E}{c:Nat}{v t:ZB}(h:TRow m base v R)(u:∀r∈R,r.2.1≠g)(l:base<=g)
  (s:ZX m base 102 3 (Y (Q (T g 0 Z)) x.h c) x.h (bZ x.q x.h)) (q:ZX p base 86 2 t (ZU R+1) (R.flatMap aZ++aZ (x,g,c))) (f:m.grownBy p v.ownBlock):TRow p base t (R++[(x,g,c)]):=by
 have n:∀k,Qz m k 102->Q k≠v.ownBlock:=λk ZY e=>fc ZY (h.type k e.c) (by decide) rfl;refine⟨by simpa using q,λr i=>?_,?_⟩;{rcases p8.1 i with i|i;{obtain⟨h1,⟨F,h2⟩,j,y⟩:=h.q r i;have e:=f.p r.2.1 h1.1 (n _ j);exact⟨h1.p f.size e,⟨F,h2.p f.size e⟩,j.p e,y⟩};{simp at i;subst i;obtain⟨h1,F,h2⟩:=kY s;have j:=jH s;have e:=f.p g h1.1 (n _ j);exact⟨h1.p f.size e,⟨F,h2.p f.size e⟩,j.p e,l⟩}};{rw[PC];refine⟨h.up,by simp,λa Z8 b o=>?_⟩;simp at o;subst o;exact u a Z8}
structure SpG (LS:List Source)(RT:List TR):Prop where
 s:∀x∈LS,x.e.size<=5000/\x.H.size<=5000
 t:∀r∈RT,r.1.e.size<=5000/\(1<=r.1.h/\r.1.h<=200)/\∀j,j<r.1.h->(r.1.q j).s.size<=5000
def H7:SpG [] []:=⟨λ_ h=>absurd h nj,λ_ h=>absurd h nj⟩
def SpG.addS (h:SpG LS RT){x:Source}(h1:x.e.size<=5000)(h2:x.H.size<=5000):SpG (LS++[x]) RT:=by
 refine⟨λy b=>?_,h.t⟩;rcases p8.1 b with b|b;{exact h.s y b};{rw[j4.1 b];exact⟨h1,h2⟩}
def SpG.addT (h:SpG LS RT)(h1:r.1.e.size<=5000)(h2:1<=r.1.h/\r.1.h<=200)(f:∀j,j<r.1.h->(r.1.q j).s.size<=5000):SpG LS (RT++[r]):=by
 refine⟨h.s,λy b=>?_⟩;rcases p8.1 b with b|b;{exact h.t y b};{rw[j4.1 b];exact⟨h1,h2,f⟩}
structure SpB (rb:Nat)(W:E)(v0 v1:ZB)(LS:List Source)(RT:List TR):Prop where
 res:W.heap[rb]?=Q (N #[Y Z 0 0,Y Z 0 0] 29 (0,0))
 ab:W.heap[rb+1]?=Q (N #[v0,v1] 29 (0,0))
 src:ZX W (rb+2) 82 2 v0 (ZU LS) (LS.flatMap bF)
 w:TRow W (rb+2) v1 RT
def qJ{i:E}{v:ZB}{row:Option Nat}(h:TRow w base v R)(b:w.grownBy i row)(g:∀k,row=Q k->Qz w k 82):TRow i base v R:=by
 refine⟨h.u.kept b ?_,λr j=>?_,h.up⟩
 ·cases hv:v.ownBlock with
  |none=>exact .inl rfl
  |some k=>exact .inr λe=>fc (h.type k hv) (g k e.c) (by decide) rfl
 {obtain⟨h1,⟨F,h2⟩,f,m⟩:=h.q r j;have e:=b.p r.2.1 h1.1 (λl=>fc f (g _ l.c) (by decide) rfl);exact⟨h1.p b.size e,⟨F,h2.p b.size e⟩,f.p e,m⟩}
def eo{v:ZB}{i:List ZB}(h:ZX w base e size v n i):∀k,v.ownBlock=Q k->Qz w k e:=by
 intro k f;rcases h.2 with⟨rfl,_⟩|⟨g,j_,b,rfl,_,j,_⟩
 {cases f}
 ·cases f
  exact⟨b,j⟩
section
variable {W W':E}{R rb:Nat}{v0 v1:ZB}{LS:List Source}{RT:List TR}
def SpB.lt (h:SpB rb W v0 v1 LS RT):rb+1<A (B W):=aj h.ab
def SpB.cells (h:SpB rb W v0 v1 LS RT):ZW W (T (rb+1) 0 Z)=Q v0/\ZW W (T (rb+1) 1 Z)=Q v1:=by have hb:=h.ab;refine⟨?_,?_⟩<;>simp[World.cell?,hb]
def SpB.aa (h:SpB rb W v0 v1 LS RT)(hb:Below (A (B W)) W W'):SpB rb W' v0 v1 LS RT:=
 have hl:=h.lt
 ⟨(hb.p rb (by omega)).k h.res,(hb.p (rb+1) h.lt).k h.ab,J_ h.src hb ly,h.w.aa hb ly⟩
def SpB.ac (h:SpB rb W v0 v1 LS RT)(b:zt R W W')(hR:R<rb):SpB rb W' v0 v1 LS RT:=by have hl:=h.lt;exact⟨(b.p rb (by omega) (by omega)).k h.res,(b.p (rb+1) h.lt (by omega)).k h.ab,gE h.src b (by omega),h.w.ac b (by omega)⟩
def H9 (w:E):SpB (A (B w)) (ZV (ZV w (N #[Y Z 0 0,Y Z 0 0] 29)) (N #[Y Z 0 0,Y Z 0 0] 29)) (Y Z 0 0) (Y Z 0 0) [] []:=by
 have hz:A (B (ZV w (N #[Y Z 0 0,Y Z 0 0] 29)))=A (B w)+1:=by simp
 refine⟨?_,?_,CP _ _ _ _,dq _ _⟩;{exact(((a8 (A (B w)+1) _).alloc (by rw[hz];exact p7 _) _).p (A (B w)) (eL _)).k (gM w _)};{have h2:=gM (ZV w (N #[Y Z 0 0,Y Z 0 0] 29)) (N #[Y Z 0 0,Y Z 0 0] 29);rw[hz] at h2;exact h2}
def SpB.addS{x:Source}{b:ZB}(h:SpB rb W v0 v1 LS RT)(f:W'.ownsRow (rb+2) 82 2 b (ZU LS+1) (LS.flatMap bF++bF x))(m:W.grownBy W' v0.ownBlock):SpB rb (z W' (T (rb+1) 0 Z) b) b v1 (LS++[x]) RT/\Below (rb+1) W (z W' (T (rb+1) 0 Z) b):=by
 have hlt:=h.lt;have l:Below (rb+2) W W':=(a8 (rb+2) W).grown m (by omega) λk g=>(h.src.lt k g).1;have i:Below (rb+1) W (z W' (T (rb+1) 0 Z) b):=(l.P (BV _)).setCell (p:=(T (rb+1) 0 Z)) ly b;refine⟨⟨(i.p rb (eL _)).k h.res,?_,?_,?_⟩,i⟩;{exact cH ((l.p (rb+1) (eL _)).k h.ab) b};{have h2:=aH (R:=rb+1) (j:=0) f (eL _) b;rw[cM,J1];simpa using h2};{exact(qJ h.w m λk g=>eo h.src k g).set (eL _) b}
def SpB.addT{c:Nat}{b:ZB}(h:SpB rb W v0 v1 LS RT)(o:∀r∈RT,r.2.1≠g)(n:W.ownsRow (rb+2) 102 3 (Y (Q (T g 0 Z)) x.h c) x.h (bZ x.q x.h))
  (i:W'.ownsRow (rb+2) 86 2 b (ZU RT+1) (RT.flatMap aZ++aZ (x,g,c))) (f:W.grownBy W' v1.ownBlock):SpB rb (z W' (T (rb+1) 1 Z) b) v0 b LS (RT++[(x,g,c)])/\Below (rb+1) W (z W' (T (rb+1) 1 Z) b):=by
 have hlt:=h.lt;have hb:rb+2<=g:=(n.lt g rfl).1;have m:Below (rb+2) W W':=(a8 (rb+2) W).grown f (by omega) λk q=>(h.w.u.lt k q).1;have l:Below (rb+1) W (z W' (T (rb+1) 1 Z) b):=(m.P (BV _)).setCell (p:=(T (rb+1) 1 Z)) ly b;refine⟨⟨(l.p rb (eL _)).k h.res,?_,?_,?_⟩,l⟩;{exact cH ((m.p (rb+1) (eL _)).k h.ab) b}
 ·refine aH (R:=rb+1) (j:=1) (h.src.kept f ?_) (eL _) b;cases hv:v0.ownBlock with
  |none=>exact .inl rfl
  |some k=>exact .inr λe=>fc (eo h.src k hv) (h.w.type k e.c) (by decide) rfl
 {exact(h.w.more2 o hb n i f).set (eL _) b}
end
def Agr (base:Nat)(w V:E):Prop:=A (B w)<=A (B V)/\∀k,base<=k->k<A (B w)->V.heap[k]?=w.heap[k]?
def Agr.refl (base:Nat)(w:E):Agr base w w:=⟨p7 _,λ_ _ _=>rfl⟩
def Agr.k{v u:E}(h:Agr base w v)(k:Agr base v u):Agr base w u:=
 ⟨nX h.1 k.1,λi h1 h2=>(k.2 i h1 (lj h2 h.1)).k (h.2 i h1 h2)⟩
def zt.agr{R:Nat}(h:zt R w V)(hR:R<base):Agr base w V:=⟨h.size,λk h1 h2=>h.p k h2 (by omega)⟩
def de{ZZ:Nat}(h:Below ZZ w V)(hB:A (B w)<=ZZ):Agr base w V:=⟨h.size,λk _ h2=>h.p k (by omega)⟩
def Agr.P{f:Nat}(h:Agr b w V)(hb:b<=f):Agr f w V:=⟨h.1,λk h1 h2=>h.2 k (by omega) h2⟩
def fk{v:ZB}{b:List ZB}(h:ZX w base e size v n b)(j:Agr base w V):ZX V base e size v n b:=by
 refine⟨h.1,?_⟩;rcases h.2 with h1|⟨g,j_,f,rfl,hb,i,h2⟩
 {exact .inl h1};{exact .inr ⟨g,j_,f,rfl,hb,(j.2 g hb (aj i)).k i,h2⟩}
def TRow.agr{v:ZB}(h:TRow w base v R)(b:Agr base w V):TRow V base v R:=by refine⟨fk h.u b,λr i=>?_,h.up⟩;obtain⟨h1,⟨F,h2⟩,g,f⟩:=h.q r i;have e:=b.2 r.2.1 f h1.1;exact⟨h1.p b.1 e,⟨F,h2.p b.1 e⟩,g.p e,f⟩
structure HSp (base:Nat)(w:E)(a0:O_)(n0:Nat)(f0:Nat->Source)(a1:O_)(n1:Nat)(f1:Nat->Target):Prop where
 sl:∀V,Agr base w V->Qx V a0 n0 f0/\Qq V a1 n1 f1
 hn0:n0<=300
 hn1:n1<=300
 aq:∀i,i<n1->(f1 i).h<=300/\∀j,j<(f1 i).h->((f1 i).q j).s.size<=5000
def HSp.agr (h:HSp base w a0 n0 f0 a1 n1 f1)(f:Agr base w V):HSp base V a0 n0 f0 a1 n1 f1:=
 ⟨λZN b=>h.sl ZN (f.k b),h.hn0,h.hn1,h.aq⟩
def HSp.P{f:Nat}(h:HSp b w a0 n0 f0 a1 n1 f1)(hb:f<=b):HSp f w a0 n0 f0 a1 n1 f1:=
 ⟨λZN g=>h.sl ZN (g.P hb),h.hn0,h.hn1,h.aq⟩
def fJ{c0 c1:Nat}(m:ZX w base 82 2 (Y a0 n0 c0) (ZU LS) (LS.flatMap bF))(l:n0=ZU LS)(g:TRow w base (Y a1 n1 c1) RT)(f:n1=ZU RT)(n:ZU LS<=300)(h1:ZU RT<=300)
  (h:∀r∈RT,r.1.h<=300/\∀j,j<r.1.h->(r.1.q j).s.size<=5000):HSp base w a0 n0 (aV LS) a1 n1 (aW (RT.map (·.1))):=by
 subst l f;refine⟨λV b=>⟨kZ (fk m b),uR (g.agr b)⟩,n,h1,λi hi=>?_⟩;have e:aW (RT.map (·.1)) i=RT[i].1:=by simp[aW,hi]
 rw[e];exact h _ (gz hi)
def DH (w:E)(R q:Nat)(e:Ending)(b:E):Prop:=∃(a0:O_) (n0 c0:Nat) (f0:Nat->Source) (a1:O_) (n1 c1:Nat) (f1:Nat->Target),e=.returned (.agg #[Y a0 n0 c0,Y a1 n1 c1])/\HSp (A (B w)) b a0 n0 f0 a1 n1 f1/\∃f:Nat,f<=q/\Rd b R f/\zt R w b
def qK (L:List I3):i3L L=bZ (cY L) (ZU L):=by
 have e:(List.range (ZU L)).map (cY L)=L.map λx=>(⟨x.1,⟨x.2.1.toArray⟩,x.2.2⟩:Ins):=by
  refine WO (by simp) λi h1 h2=>?_;have hi:i<ZU L:=by simpa using h2
  simp[cY,hi]
 rw[bZ,e,UW];rfl
structure PrG (base:Nat)(W:E)(RT:List TR)(b g c n:Nat)(f:Nat->Ins):Prop where
 ad:PB W b (Y (Q (T g 0 Z)) n c)
 u:ZX W base 102 3 (Y (Q (T g 0 Z)) n c) n (bZ f n)
 new:∀r∈RT,r.2.1≠g
 lo:base<=b
 num:1<=n/\n<=200
 sz:∀j,j<n->(f j).s.size<=5000
section
variable {W W':E}{base R b g c n:Nat}{f:Nat->Ins}{RT:List TR}
def PrG.aa (h:PrG base W RT b g c n f){ZZ:Nat}(hb:Below ZZ W W')(i:A (B W)<=ZZ):PrG base W' RT b g c n f:=
 ⟨h.ad.aa hb (lj h.ad.lt i),J_ h.u hb i,h.new,h.lo,h.num,h.sz⟩
def PrG.ac (h:PrG base W RT b g c n f)(i:zt R W W')(hR:R<base):PrG base W' RT b g c n f:=
 ⟨(i.p b h.ad.lt (by have:=h.lo;omega)).k h.ad,gE h.u i hR,h.new,h.lo,h.num,h.sz⟩
def TRow.ltg{base:Nat}{v:ZB}{R:List TR}(h:TRow w base v R):∀r∈R,r.2.1<A (B w):=λr b=>(h.q r b).1.1
def TRow.atk{base c k:Nat}{R:List TR}(h:TRow w base (Y a (ZU R) c) R)(l:k<ZU R):∃(b:Nat) (r:TR),a=Q (T b 0 Z)/\b<A (B w)/\r∈R/\ZW w (T b (k*2) Z)=Q (U r.1.e)/\ZW w (T b (k*2+1) Z)=Q (Y (Q (T r.2.1 0 Z)) r.1.h r.2.2)/\SlIns w (Q (T r.2.1 0 Z)) r.1.h r.1.q:=by
 obtain⟨g,c',e⟩:=ey h.u (by omega);simp at e;obtain⟨rfl,rfl⟩:=e;obtain⟨r,i,f⟩:=xY l;refine⟨g,r,rfl,(cV h.u).2,f,?_,?_,(h.q r f).1.sl⟩;{exact(bA h.u (j:=k*2) (u:=U r.1.e) (by have:=cT aZ 2 (λ_=>rfl) R k 0 (by omega) _ i;simpa[aZ] using this)).1};{exact(bA h.u (j:=k*2+1) (u:=Y (Q (T r.2.1 0 Z)) r.1.h r.2.2) (by have:=cT aZ 2 (λ_=>rfl) R k 1 (by omega) _ i;simpa[aZ] using this)).1}
def iI (f:∀i∈L,i.2.1.length<=5000):∀j,j<ZU L->(cY L j).s.size<=5000:=by
 intro j b;have e:cY L j=⟨L[j].1,⟨L[j].2.1.toArray⟩,L[j].2.2⟩:=by simp[cY,b]
 rw[e];show L[j].2.1.toArray.size<=5000;simpa using f _ (gz b)
def Ct (f:IR W lo g c L)(h:base<=lo)(b:∀r∈RT,r.2.1<lo)(j:base<=A (B W))(h1:1<=ZU L/\(ZU L)<=200)(l:∀i∈L,i.2.1.length<=5000):PrG base (ZV W (N #[Y (Q (T g 0 Z)) (ZU L) c] 37)) RT (A (B W)) g c (ZU L) (cY L):=by
 have hg:=f.lt;refine⟨gM W _,?_,λr m e=>by have:=b r m;omega,j,h1,iI l⟩;have h2:W.ownsRow base 102 3 (Y (Q (T g 0 Z)) (ZU L) c) (ZU L) (bZ (cY L) (ZU L)):=by rw[<-qK];exact aE f h
 exact J_ h2 ((BS W).alloc ly _) ly
def PrG.put{l c2 i:Nat}{q:Nat->Ins}(h:PrG base W RT b g c n f)(o:W.ownsRow lo 102 3 (Y (Q (T l 0 Z)) i c2) i (bZ q i))(Z8:base<=lo)(p:∀r∈RT,r.2.1<lo)(h1:1<=i/\i<=200)(D:∀j,j<i->(q j).s.size<=5000):PrG base (z W (T b 0 Z) (Y (Q (T l 0 Z)) i c2)) RT b l c2 i q:=by
 have y:=(World.ownsRow.lt o l rfl).1;refine⟨h.ad.set _,?_,λr ZT e=>by have:=p r ZT;omega,h.lo,h1,D⟩;have x:b≠l:=by intro e;subst e;obtain⟨m,y⟩:=jH o;have:=h.ad.c.k y;cases this
 refine aE ?_ Z8;rcases o with⟨t,h2|⟨C,j_,m,ZY,hb,u,ZZ⟩⟩;{exact⟨t,.inl h2⟩}
 ·refine⟨t,.inr ⟨C,j_,m,ZY,hb,?_,ZZ⟩⟩;cases ZY
  exact(qh W (T b 0 Z) _ l (λe=>x e.c)).k u
def SpB.putP{rb:Nat}{v0 v1:ZB}{v:ZB}(h:SpB rb W v0 v1 LS RT)(D:PB W b v)(hb:rb+2<=b)(u:ZB):SpB rb (z W (T b 0 Z) u) v0 v1 LS RT:=by
 have far:∀k,k≠b->(z W (T b 0 Z) u).heap[k]?=W.heap[k]?:=λk t=>qh W (T b 0 Z) u k (by simpa using t);have j:A (B W)<=A (B (z W (T b 0 Z) u)):=by simp[World.setCell]
 have m:∀k e,Qz W k e->e≠37->k≠b:=by
  intro k e ⟨f,t⟩ o s;subst s;have:=D.c.k t;cases this
  exact o rfl
 have g:∀{e:ZK} {size n:Nat} {x:ZB} {q:List ZB},ZX W (rb+2) e size x n q->e≠37->(z W (T b 0 Z) u).ownsRow (rb+2) e size x n q:=by
  intro e size n x q ZY o;rcases ZY with⟨y,h2|⟨p,j_,f,s,Z8,l,i⟩⟩;{exact⟨y,.inl h2⟩};{exact⟨y,.inr ⟨p,j_,f,s,Z8,(far p (m p e ⟨f,l⟩ o)).k l,i⟩⟩}
 refine⟨(far rb (by omega)).k h.res,(far (rb+1) (by omega)).k h.ab,g h.src (by decide),g h.w.u (by decide),λr C=>?_,h.w.up⟩;obtain⟨h1,⟨F,h2⟩,i,ZZ⟩:=h.w.q r C;have e:=far r.2.1 (m r.2.1 102 i (by decide));exact⟨h1.p j e,⟨F,h2.p j e⟩,i.p e,ZZ⟩
def I8 (nm tx:F_)(Z8:Int)(i:Nat):Ins:=([⟨1,nm,0⟩,⟨12,⟨#[]⟩,0⟩,⟨1,tx,0⟩,⟨2,⟨#[]⟩,0⟩,⟨3,⟨#[]⟩,Z8⟩,⟨15,⟨#[]⟩,0⟩]:List Ins).getD i ⟨0,⟨#[]⟩,0⟩
def Cu{tx:F_}{Z8:Int}(h1:nm.size<=5000)(h2:tx.size<=5000):∀j,j<6->(I8 nm tx Z8 j).s.size<=5000:=by
 have b:(⟨#[]⟩:F_).size<=5000:=DW _;intro j f;match j,f with
 |0,_=>exact h1
 |1,_=>exact b
 |2,_=>exact h2
 |3,_=>exact b
 |4,_=>exact b
 |5,_=>exact b
 |k+6,h=>exact absurd h (by omega)
abbrev rM (nm tx:F_)(Z8:Int):Array ZB:=#[J I 1,U nm,J I 0,J I 12,U ⟨#[]⟩,J I 0,J I 1,U tx,J I 0,J I 2,U ⟨#[]⟩,J I 0,J I 3,U ⟨#[]⟩,J I Z8,J I 15,U ⟨#[]⟩,J I 0]
def PrG.six (h:PrG base W RT b g c n f)(j:∀r∈RT,r.2.1<A (B W))(l:base<=A (B W))(nm tx:F_)(Z8:Int)(h1:nm.size<=5000)(h2:tx.size<=5000):PrG base ((z W (T b 0 Z) (Y (Q (T (A (B W)) 0 Z)) 6 6)).alloc (N (rM nm tx Z8) 102)) RT b (A (B W)) 6 6 (I8 nm tx Z8):=by
 have hz:A (B (z W (T b 0 Z) (Y (Q (T (A (B W)) 0 Z)) 6 6)))=A (B W):=by simp
 have ZY:=(a8 (A (B W)) (z W (T b 0 Z) (Y (Q (T (A (B W)) 0 Z)) 6 6))).alloc (by rw[hz];exact p7 _) (N (rM nm tx Z8) 102);refine⟨(h.ad.set _).aa ZY h.ad.lt,?_,λr m e=>by have:=j r m;omega,h.lo,⟨by omega,by omega⟩,Cu h1 h2⟩;have i:=gM (z W (T b 0 Z) (Y (Q (T (A (B W)) 0 Z)) 6 6)) (N (rM nm tx Z8) 102);rw[hz] at i;exact⟨rfl,.inr ⟨A (B W),6,rM nm tx Z8,rfl,l,i,p7 _,by unfold maxLen;omega,rfl,rfl⟩⟩
end
def dJ{v:ZB}{l:List ZB}{q:Array ZB}{fz:Nat × Nat}(h:ZX w base e size v n l)(hX:w.heap[X]?=Q (N q t fz))(p:t≠e)(u:ZB):(z w (T X j Z) u).ownsRow base e size v n l:=by
 rcases h with⟨b,h2|⟨g,j_,f,r,hb,i,m⟩⟩;{exact⟨b,.inl h2⟩}
 ·refine⟨b,.inr ⟨g,j_,f,r,hb,(qh w (T X j Z) u g ?_).k i,m⟩⟩;intro o;obtain rfl:g=X:=o;have:=hX.c.k i;cases this
  exact p rfl
def kN{v:ZB}{m:Array ZB}{fz:Nat × Nat}(h:TRow w base v R)(hX:w.heap[X]?=Q (N m t fz))(l:t≠86)(hi:t≠102)(u:ZB):TRow (z w (T X j Z) u) base v R:=by
 refine⟨dJ h.u hX l u,λr i=>?_,h.up⟩;obtain⟨h1,⟨F,h2⟩,b,g⟩:=h.q r i
 have e:(z w (T X j Z) u).heap[r.2.1]?=w.heap[r.2.1]?:=qh w (T X j Z) u r.2.1 (by
  intro f;obtain rfl:r.2.1=X:=f;obtain⟨cur,n⟩:=b;have:=hX.c.k n;cases this
  exact hi rfl)
 exact⟨h1.p (by simp) e,⟨F,h2.p (by simp) e⟩,b.p e,g⟩
def gw{f:E}{v:ZB}{b:Array ZB}{fz:Nat × Nat}(h:w.grownBy f v.ownBlock)(i:∀k,v.ownBlock=Q k->Qz w k e)(hX:w.heap[X]?=Q (N b t fz))(l:t≠e):f.heap[X]?=Q (N b t fz):=by
 refine(h.p X (aj hX) λg=>?_).k hX;obtain⟨cur,j⟩:=i X g.c;have:=hX.c.k j;cases this
 exact l rfl
def GX (RT:List TR):Prop:=∀r∈RT,r.1.h<=300/\∀j,j<r.1.h->(r.1.q j).s.size<=5000
def GX.add (h:GX RT)(h1:r.1.h<=300)(h2:∀j,j<r.1.h->(r.1.q j).s.size<=5000):GX (RT++[r]):=by
 intro y b;rcases p8.1 b with b|b;{exact h y b};{rw[j4.1 b];exact⟨h1,h2⟩}
def yt{t:F_}(hM:R.map (·.1)=Qj f t n)(b:∀i,i<n->(f i).h<=300/\∀j,j<(f i).h->((f i).q j).s.size<=5000):GX R:=by
 intro r g;have h1:r.1∈Qj f t n:=by rw[<-hM];exact U2 g
 have h2:=(U9.1 h1).1;obtain⟨i,hi,e⟩:=NM.1 h2;rw[<-e];exact b i (E4.1 hi)
def Ia{t:F_}(hM:R.map (·.1)=Qj f t n)(b:∀i,i<n->1<=(f i).h/\(f i).h<=200):∀r∈R,1<=r.1.h/\r.1.h<=200:=by
 intro r g;have h1:r.1∈Qj f t n:=by rw[<-hM];exact U2 g
 have h2:=(U9.1 h1).1;obtain⟨i,hi,e⟩:=NM.1 h2;rw[<-e];exact b i (E4.1 hi)
def qL{t:F_}(hM:R.map (·.1)=Qj f t n):ZU R<=n:=by
 have h1:ZU R=(Qj f t n).length:=by rw[<-hM,PI]
 have:=WF (λx:Target=>!(x.e.toList == t.toList)) ((List.range n).map f);rw[h1];simpa[Qj] using this
def lsI (L:List Ins)(i:Nat):Ins:=L.getD i ⟨0,⟨#[]⟩,0⟩
def vJ{L:List Ins}(h:∀x∈L,x.s.size<=5000):∀j,j<ZU L->(lsI L j).s.size<=5000:=by
 intro j b;have e:lsI L j=L[j]:=by simp[lsI,b]
 rw[e];exact h _ (gz b)
def mC{Z8:Nat}(hz:A (B w)=Z8)(x y:ZB)(t:ZK):∀j u,[x,y][j]?=Q u->(ZV w (N #[x,y] t)).cell? (((T Z8 0 Z):Addr).add j)=Q u:=by subst hz;exact df w x y t
def iy:List Ins:=[⟨1,⟨#[107]⟩,0⟩,⟨15,⟨#[]⟩,0⟩]
def iZ (b:F_):List Ins:=[⟨1,b,0⟩,⟨12,⟨#[]⟩,0⟩,⟨15,⟨#[]⟩,0⟩]
def rN (w:E)(hb:base<=A (B w)):(ZV w (N #[J I 1,U ⟨#[107]⟩,J I 0,J I 15,U ⟨#[]⟩,J I 0] 102)).ownsRow base 102 3 (Y (Q (T (A (B w)) 0 Z)) 2 2) 2 (bZ (lsI iy) 2):=
 ⟨rfl,.inr ⟨A (B w),2,_,rfl,hb,gM w _,p7 _,by unfold maxLen;omega,rfl,rfl⟩⟩
def Cv (w:E)(b:F_)(hb:base<=A (B w)):(ZV w (N #[J I 1,U b,J I 0,J I 12,U ⟨#[]⟩,J I 0,J I 15,U ⟨#[]⟩,J I 0] 102)).ownsRow base 102 3 (Y (Q (T (A (B w)) 0 Z)) 3 3) 3 (bZ (lsI (iZ b)) 3):=
 ⟨rfl,.inr ⟨A (B w),3,_,rfl,hb,gM w _,p7 _,by unfold maxLen;omega,rfl,rfl⟩⟩
def pD:∀j,j<2->(lsI iy j).s.size<=5000:=vJ (L:=iy) (by decide)
def Ag{b:F_}(h:b.size<=5000):∀j,j<3->(lsI (iZ b) j).s.size<=5000:=vJ (L:=iZ b) λx f=>by
 simp only[iZ,vG,nj,QV] at f;rcases f with rfl|rfl|rfl
 ·exact h
 ·exact DW _
 ·exact DW _
def gU{c:Nat}{f:List ZB}(h:ZX w base e size (Y (Q (T g 0 Z)) n c) n f)(u:ZB):(z w (T g j Z) u).ownsRow base e size (Y (Q (T g 0 Z)) n c) n (f.set j u):=by
 rcases h with⟨i,⟨h2,_⟩|⟨g',j_,b,r,hb,p,l,m,q,o⟩⟩;{cases h2}
 ·cases r
  refine⟨by rw[NI];exact i,.inr ⟨g,c,b.setIfInBounds j u,rfl,hb,cH p u,l,m,by rw[Array.size_setIfInBounds];exact q,?_⟩⟩;rw[<-o,RY,YV]
def FC (h:∀r∈RT,Q_ w r.2.1 0 r.1.h r.1.q/\(∃F,Cells w r.2.1 0 (r.1.h*3) F)/\Qz w r.2.1 102/\base<=r.2.1)(m:Qz w b 86)(u:ZB):∀r∈RT,Q_ (z w (T b j Z) u) r.2.1 0 r.1.h r.1.q/\(∃F,Cells (z w (T b j Z) u) r.2.1 0 (r.1.h*3) F)/\Qz (z w (T b j Z) u) r.2.1 102/\base<=r.2.1:=by
 intro r l;obtain⟨h1,⟨F,h2⟩,g,i⟩:=h r l
 have e:(z w (T b j Z) u).heap[r.2.1]?=w.heap[r.2.1]?:=qh w (T b j Z) u r.2.1 (by
  intro f;have f:r.2.1=b:=f
  exact fc g (f ▸ m) (by decide) rfl)
 exact⟨h1.p (by simp) e,⟨F,h2.p (by simp) e⟩,g.p e,i⟩
def fl (hX:X<base)(u:ZB):Agr base w (z w (T X j Z) u):=
 ⟨by simp,λk h1 _=>qh w (T X j Z) u k (by intro e;have e:k=X:=e;omega)⟩
abbrev TO:=Target × O_ × Nat
def toV (r:TO):List ZB:=[U r.1.e,Y r.2.1 r.1.h r.2.2]
def upO (r:TR):TO:=(r.1,Q (T r.2.1 0 Z),r.2.2)
def pE (RT:List TR):RT.flatMap aZ=(RT.map upO).flatMap toV:=by rw[UW];rfl
def vK{c:Nat}{L:List TO}(h:ZX w base 86 2 (Y a (ZU L) c) (ZU L) (L.flatMap toV))(l:∀r∈L,SlIns w r.2.1 r.1.h r.1.q):Qq w a (ZU L) (aW (L.map (·.1))):=by
 by_cases hn:ZU L=0;{exact .inl hn}
 ·obtain⟨g,c',e⟩:=ey h (by omega);simp at e;obtain⟨rfl,rfl⟩:=e;refine .inr ⟨g,0,rfl,(cV h).2,λi hi=>?_⟩;have b:L[i]?=Q L[i]:=gq hi;have f:aW (L.map (·.1)) i=L[i].1:=by simp[aW,hi]
  rw[f];refine⟨?_,L[i].2.1,L[i].2.2,?_,l _ (gz hi)⟩;{have:=(bA h (j:=i*2) (u:=U L[i].1.e) (by have:=cT toV 2 (λ_=>rfl) L i 0 (by omega) _ b;simpa[toV] using this)).1;rwa[show 0+i*2=i*2 by omega]};{have:=(bA h (j:=i*2+1) (u:=Y L[i].2.1 L[i].1.h L[i].2.2) (by have:=cT toV 2 (λ_=>rfl) L i 1 (by omega) _ b;simpa[toV] using this)).1;rwa[show 0+i*2+1=i*2+1 by omega]}
structure SpX (rr xb base:Nat)(W:E)(v0 v1:ZB)(LS:List Source)(RT:List TR):Prop where
 res:W.heap[rr]?=Q (N #[Y Z 0 0,Y Z 0 0] 29 (0,0))
 ab:W.heap[xb]?=Q (N #[v0,v1] 29 (0,0))
 lo:rr<base
 hi:base<=xb
 src:ZX W base 82 2 v0 (ZU LS) (LS.flatMap bF)
 w:TRow W base v1 RT
section
variable {W W':E}{R rr xb base:Nat}{v0 v1:ZB}{LS:List Source}{RT:List TR}
def SpX.lt (h:SpX rr xb base W v0 v1 LS RT):xb<A (B W):=aj h.ab
def SpX.cells (h:SpX rr xb base W v0 v1 LS RT):ZW W (T xb 0 Z)=Q v0/\ZW W (T xb 1 Z)=Q v1:=by have hb:=h.ab;refine⟨?_,?_⟩<;>simp[World.cell?,hb]
def BxS (v0 v1:ZB)(xb:Nat)(V:E):Prop:=V.heap[xb]?=Q (N #[v0,v1] 29 (0,0))/\ZW V (T xb 0 Z)=Q v0
def BxT (v0 v1:ZB)(xb:Nat)(V:E):Prop:=V.heap[xb]?=Q (N #[v0,v1] 29 (0,0))/\ZW V (T xb 1 Z)=Q v1
def i8 (h:W.heap[xb]?=Q (N #[v0,v1] 29 (0,0))):BxS v0 v1 xb W:=⟨h,by simp[World.cell?,h]⟩
def vL (h:W.heap[xb]?=Q (N #[v0,v1] 29 (0,0))):BxT v0 v1 xb W:=⟨h,by simp[World.cell?,h]⟩
def SpX.Qy (h:SpX rr xb base W v0 v1 LS RT)(V:E)(f:∀j,j<A (B W)->Q j≠v0.ownBlock->V.heap[j]?=W.heap[j]?):BxS v0 v1 xb V:=
 i8 ((f xb h.lt λe=>by
  obtain⟨cur,b⟩:=eo h.src _ e.c
  cases h.ab.c.k b).k h.ab)
def SpX.Qj (h:SpX rr xb base W v0 v1 LS RT)(V:E)(f:∀j,j<A (B W)->Q j≠v1.ownBlock->V.heap[j]?=W.heap[j]?):BxT v0 v1 xb V:=
 vL ((f xb h.lt λe=>by
  obtain⟨cur,b⟩:=h.w.type _ e.c
  cases h.ab.c.k b).k h.ab)
def SpX.open (h:SpX rr xb base W v0 v1 LS RT):W.frozen? (T xb 0 Z)=false/\W.frozen? (T xb 1 Z)=false:=by have hb:=h.ab;refine⟨?_,?_⟩<;>simp[World.frozen?,hb]
def SpX.aa (h:SpX rr xb base W v0 v1 LS RT){ZZ:Nat}(hb:Below ZZ W W')(b:A (B W)<=ZZ):SpX rr xb base W' v0 v1 LS RT:=by have hl:=h.lt;have:=h.lo;have:=h.hi;exact⟨(hb.p rr (by omega)).k h.res,(hb.p xb (by omega)).k h.ab,h.lo,h.hi,J_ h.src hb b,h.w.aa hb b⟩
def SpX.ac (h:SpX rr xb base W v0 v1 LS RT)(b:zt R W W')(hR:R<rr):SpX rr xb base W' v0 v1 LS RT:=by have hl:=h.lt;have h1:=h.lo;have h2:=h.hi;exact⟨(b.p rr (by omega) (by omega)).k h.res,(b.p xb (by omega) (by omega)).k h.ab,h1,h2,gE h.src b (by omega),h.w.ac b (by omega)⟩
def SpX.addT{c:Nat}{b:ZB}(h:SpX rr xb base W v0 v1 LS RT)(n:∀r∈RT,r.2.1≠g)(m:W.ownsRow base 102 3 (Y (Q (T g 0 Z)) x.h c) x.h (bZ x.q x.h))
  (j:ZX W' base 86 2 b (ZU RT+1) (RT.flatMap aZ++aZ (x,g,c))) (f:W.grownBy W' v1.ownBlock):SpX rr xb base (z W' (T xb 1 Z) b) v0 b LS (RT++[(x,g,c)])/\Below base W (z W' (T xb 1 Z) b):=by
 have hlt:=h.lt;have h1:=h.lo;have h2:=h.hi;have hb:base<=g:=(m.lt g rfl).1;have o:Below base W W':=(a8 base W).grown f (by omega) λk q=>(h.w.u.lt k q).1;have l:Below base W (z W' (T xb 1 Z) b):=o.setCell (p:=(T xb 1 Z)) h2 b;have i:W'.heap[xb]?=Q (N #[v0,v1] 29 (0,0)):=gw f h.w.type h.ab (by decide);refine⟨⟨(l.p rr h1).k h.res,cH i b,h1,h2,?_,?_⟩,l⟩
 ·refine dJ (h.src.kept f ?_) i (by decide) b;cases hv:v0.ownBlock with
  |none=>exact .inl rfl
  |some k=>exact .inr λe=>fc (eo h.src k hv) (h.w.type k e.c) (by decide) rfl
 {exact kN (h.w.more2 n hb m j f) i (by decide) (by decide) b}
def SpX.addS{x:Source}{b:ZB}(h:SpX rr xb base W v0 v1 LS RT)(f:ZX W' base 82 2 b (ZU LS+1) (LS.flatMap bF++bF x))(i:W.grownBy W' v0.ownBlock):SpX rr xb base (z W' (T xb 0 Z) b) b v1 (LS++[x]) RT/\Below base W (z W' (T xb 0 Z) b):=by
 have hlt:=h.lt;have h1:=h.lo;have h2:=h.hi;have o:Below base W W':=(a8 base W).grown i (by omega) λk l=>(h.src.lt k l).1;have m:Below base W (z W' (T xb 0 Z) b):=o.setCell (p:=(T xb 0 Z)) h2 b;have g:W'.heap[xb]?=Q (N #[v0,v1] 29 (0,0)):=gw i (eo h.src) h.ab (by decide);refine⟨⟨(m.p rr h1).k h.res,cH g b,h1,h2,?_,?_⟩,m⟩;{have n:=dJ f g (by decide) (j:=0) b;rw[cM,J1];simpa using n};{exact kN (qJ h.w i λk l=>eo h.src k l) g (by decide) (by decide) b}
def TRow.P{base:Nat}(h:TRow W base v1 RT)(hb:base'<=base):TRow W base' v1 RT:=
 ⟨aE h.u hb,λr f=>by obtain⟨h1,h2,b,h4⟩:=h.q r f;exact⟨h1,h2,b,by omega⟩,h.up⟩
def oD (b:W.heap[rr]?=Q (N #[Y Z 0 0,Y Z 0 0] 29 (0,0)))(f:rr<base)(hb:base<=base')(hz:base<=A (B W))(g:ZX W base' 82 2 v0 (ZU LS) (LS.flatMap bF))(h:TRow W base' v1 RT):SpX rr (A (B W)) base (ZV W (N #[v0,v1] 29)) v0 v1 LS RT:=by have ZY:=(BS W).alloc ly (N #[v0,v1] 29);exact⟨(ZY.p rr (aj b)).k b,gM W _,f,hz,J_ (aE g hb) ZY ly,(h.P hb).aa ZY ly⟩
def SpX.fin{c0 c1:Nat}(h:SpX rr xb base W (Y a0 n0 c0) (Y a1 n1 c1) LS RT)(i:n0=ZU LS)(f:n1=ZU RT)(g:ZU LS<=300)(h1:ZU RT<=300)(b:GX RT)(u v:ZB):HSp base (z (z W (T rr 0 Z) u) (T rr 1 Z) v) a0 n0 (aV LS) a1 n1 (aW (RT.map (·.1))):=
 fJ (aH (aH h.src h.lo u) h.lo v) i ((h.w.set h.lo u).set h.lo v) f g h1 b
def SpX.addNil{c0 c1:Nat}(h:SpX rr xb base W (Y a0 (ZU LS) c0) v1 LS RT)(q:ZX W' base 86 2 (Y a1 (ZU RT+1) c1) (ZU RT+1) (RT.flatMap aZ++[U nm,Y Z 0 0]))(b:W.grownBy W' v1.ownBlock)(L:ZU LS<=300)(h1:ZU RT<=299)(D:GX RT):HSp base (z W' (T xb 1 Z) (Y a1 (ZU RT+1) c1)) a0 (ZU LS) (aV LS) a1 (ZU RT+1) (aW (RT.map (·.1)++[⟨nm,0,λ_=>⟨0,⟨#[]⟩,0⟩⟩]))/\(z W' (T xb 1 Z) (Y a1 (ZU RT+1) c1)).heap[xb]?=Q (N #[Y a0 (ZU LS) c0,Y a1 (ZU RT+1) c1] 29 (0,0))/\(z W' (T xb 1 Z) (Y a1 (ZU RT+1) c1)).heap[rr]?=Q (N #[Y Z 0 0,Y Z 0 0] 29 (0,0))/\Below base W (z W' (T xb 1 Z) (Y a1 (ZU RT+1) c1)):=by
 have hlt:=h.lt;have G:=h.lo;have K:=h.hi;have C:Below base W W':=(a8 base W).grown b (by omega) λk ZT=>(h.w.u.lt k ZT).1;have x:Below base W (z W' (T xb 1 Z) (Y a1 (ZU RT+1) c1)):=C.setCell (p:=(T xb 1 Z)) K _;have g:W'.heap[xb]?=Q (N #[Y a0 (ZU LS) c0,v1] 29 (0,0)):=gw b h.w.type h.ab (by decide);have o:(z W' (T xb 1 Z) (Y a1 (ZU RT+1) c1)).ownsRow base 82 2 (Y a0 (ZU LS) c0) (ZU LS) (LS.flatMap bF):=by
  refine dJ (h.src.kept b ?_) g (by decide) _;cases hv:(Value.slice a0 (ZU LS) c0).ownBlock with
  |none=>exact .inl rfl
  |some k=>exact .inr λe=>fc (eo h.src k hv) (h.w.type k e.c) (by decide) rfl
 have t:=dJ q g (by decide) (j:=1) (Y a1 (ZU RT+1) c1);refine⟨⟨λV l=>⟨kZ (fk o l),?_⟩,L,by omega,λi hi=>?_⟩,cH g _,(x.p rr G).k h.res,x⟩
 ·have ZY:ZU RT+1=(RT.map upO++[((⟨nm,0,λ_=>⟨0,⟨#[]⟩,0⟩⟩,Z,0):TO)]).length:=by simp
  have u:=fk t l;rw[pE,show(RT.map upO).flatMap toV++[U nm,Y Z 0 0]=(RT.map upO++[((⟨nm,0,λ_=>⟨0,⟨#[]⟩,0⟩⟩,Z,0):TO)]).flatMap toV by rw[J1];rfl,ZY] at u;have M:=vK u ?_
  ·rw[ZY];have ZQ:(RT.map upO++[((⟨nm,0,λ_=>⟨0,⟨#[]⟩,0⟩⟩,Z,0):TO)]).map (·.1)=RT.map (·.1)++[⟨nm,0,λ_=>⟨0,⟨#[]⟩,0⟩⟩]:=by rw[ND,List.map_map];rfl
   rw[<-ZQ];exact M
  ·intro r f;rcases p8.1 f with f|f
   ·obtain⟨y,H,rfl⟩:=NM.1 f;obtain⟨Z8,_,s,ZR⟩:=h.w.q y H;have z1:=b.p y.2.1 Z8.1 (λe=>fc s (h.w.type _ e.c) (by decide) rfl);have z2:=Z8.p b.size z1;have z3:Q_ (z W' (T xb 1 Z) (Y a1 (ZU RT+1) c1)) y.2.1 0 y.1.h y.1.q:=by refine z2.p (by simp) (qh W' (T xb 1 Z) _ y.2.1 ?_);intro n;have n:y.2.1=xb:=n;obtain⟨cur,ZZ⟩:=s.p z1;rw[n] at ZZ;have:=g.c.k ZZ;cases this
    exact(z3.p l.1 (l.2 y.2.1 ZR z3.1)).sl
   {rw[j4.1 f];exact .inl rfl}
 ·by_cases m:i<ZU RT
  ·have e:aW (RT.map (·.1)++[⟨nm,0,λ_=>⟨0,⟨#[]⟩,0⟩⟩]) i=RT[i].1:=by simp[aW,List.getElem?_append,m]
   rw[e];exact D _ (gz m)
  ·have e:aW (RT.map (·.1)++[⟨nm,0,λ_=>⟨0,⟨#[]⟩,0⟩⟩]) i=⟨nm,0,λ_=>⟨0,⟨#[]⟩,0⟩⟩:=by
    obtain rfl:i=ZU RT:=by omega
    simp[aW]
   rw[e];exact⟨by show 0<=300;omega,λj ZS=>absurd ZS (NE _)⟩
def SpX.setS{c0:Nat}{LS':List Source}(h:SpX rr xb base W (Y (Q (T b 0 Z)) (ZU LS) c0) v1 LS RT)(u:ZB)(i:ZU LS'=ZU LS)(l:(LS.flatMap bF).set j u=LS'.flatMap bF):SpX rr xb base (z W (T b j Z) u) (Y (Q (T b 0 Z)) (ZU LS) c0) v1 LS' RT/\Below base W (z W (T b j Z) u):=by
 have hb:=(h.src.lt b rfl).1;obtain⟨cur,g⟩:=eo h.src b rfl;have far:∀(X:Nat) f,W.heap[X]?=Q (N f 29 (0,0))->(z W (T b j Z) u).heap[X]?=Q (N f 29 (0,0)):=by intro X f hX;refine(qh W (T b j Z) u X ?_).k hX;intro e;have e:X=b:=e;subst e;have:=hX.c.k g;cases this
 refine⟨⟨far _ _ h.res,far _ _ h.ab,h.lo,h.hi,?_,kN h.w g (by decide) (by decide) u⟩,(a8 base W).setCell (p:=(T b j Z)) hb u⟩;have h2:=gU h.src (j:=j) u;rw[l] at h2;rw[i];exact h2
def yu{c0 c1:Nat}{L:List TO}(q:W.ownsRow base 82 2 (Y a0 n0 c0) (ZU LS) (LS.flatMap bF))(p:n0=ZU LS)(n:W.ownsRow base 86 2 (Y a1 n1 c1) n1 (L.flatMap toV))(h:n1=ZU L)(t:ZU LS<=300)(h1:ZU L<=300)
  (m:∀r∈L,∃g,r.2.1=Q (T g 0 Z)/\base<=g/\Q_ W g 0 r.1.h r.1.q) (o:∀r∈L,r.1.h<=300/\∀j,j<r.1.h->(r.1.q j).s.size<=5000):HSp base W a0 n0 (aV LS) a1 n1 (aW (L.map (·.1))):=by
 subst p h;refine⟨λV b=>⟨kZ (fk q b),vK (fk n b) λr l=>?_⟩,t,h1,λi hi=>?_⟩;{obtain⟨g,e,hb,f⟩:=m r l;rw[e];exact(f.p b.1 (b.2 g hb f.1)).sl}
 ·have e:aW (L.map (·.1)) i=L[i].1:=by simp[aW,hi]
  rw[e];exact o _ (gz hi)
def ko{c:Nat}{f:List ZB}(h:W.ownsRow b e size (Y a n c) n f)(hn:0<n):∃g,a=Q (T g 0 Z):=by obtain⟨g,c',e⟩:=ey h hn;simp at e;exact⟨g,e.1⟩
end
