import Derived.Test.YtpmnbjkjpnclaaaGreatDoorLV
import Derived.Test.YtpmnbjkjpnclaaaGreatDoorLC
open Go renaming Addr.mk->N,Value.slice->Y,Value.string->U,Value.int->Q,Obj.cells->J,IntKind.i64->I,World->M,Value->ZB,TypeId->ZH,World.heap->A
open Option renaming none->Z,some->T
open Array renaming size->B
namespace Go.Proofs.YtpmnbjkjpnclaaaGreatDoor.Vp
open RowKit
variable {w:M}{base n j X size b ZR lo g base' n0 n1:Nat}{e t:ZH}{R RT:List TR}{a a0 a1:Option Addr}{f:Nat->Target}{L:List I3}{nm:ByteArray}
theorem sT (L:List I3):i3L L=bX (dm L) L.length:=by
 have e:(List.range L.length).map (dm L)=L.map λx=>(⟨x.1,⟨x.2.1.toArray⟩,x.2.2⟩:Ins):=by
  refine List.ext_getElem (by simp) λi h1 h2=>?_;have hi:i<L.length:=by simpa using h2
  simp[dm,hi]
 rw[bX,e,PC];rfl
structure PrG (base:Nat)(W:M)(RT:List TR)(b g c n:Nat)(f:Nat->Ins):Prop where
 ad:PB W b (Y (T (N g 0 Z)) n c)
 x:W.ownsRow base 151 3 (Y (T (N g 0 Z)) n c) n (bX f n)
 new:∀r∈RT,r.2.1≠g
 lo:base<=b
 num:1<=n/\n<=200
 sz:∀j,j<n->(f j).s.size<=5000
section
variable {W W':M}{base R b g c n:Nat}{f:Nat->Ins}{RT:List TR}
theorem PrG.aa (h:PrG base W RT b g c n f)(hb:Below ZR W W')(i:B (A W)<=ZR):PrG base W' RT b g c n f :=
 ⟨h.ad.aa hb (lj h.ad.lt i),own_below h.x hb i,h.new,h.lo,h.num,h.sz⟩
theorem PrG.ac (h:PrG base W RT b g c n f)(i:Only R W W')(hR:R<base):PrG base W' RT b g c n f :=
 ⟨(i.block b h.ad.lt (by have:=h.lo;omega)).trans h.ad,fs h.x i hR,h.new,h.lo,h.num,h.sz⟩
theorem TRow.ltg{base:Nat}{v:ZB}{R:List TR}(h:TRow w base v R):∀r∈R,r.2.1<B (A w):=λr b=>(h.D r b).1.1
theorem TRow.atk{base c k:Nat}{R:List TR}(h:TRow w base (Y a R.length c) R)(l:k<R.length):∃(b:Nat) (r:TR),a=T (N b 0 Z)/\b<B (A w)/\r∈R/\w.cell? (N b (k*2) Z)=T (U r.1.e)/\w.cell? (N b (k*2+1) Z)=T (Y (T (N r.2.1 0 Z)) r.1.m r.2.2)/\SlIns w (T (N r.2.1 0 Z)) r.1.m r.1.D:=by
 obtain⟨g,c',e⟩:=dI h.x (by omega);simp at e;obtain⟨rfl,rfl⟩:=e;obtain⟨r,i,f⟩:=uU l;refine⟨g,r,rfl,(cO h.x).2,f,?_,?_,(h.D r f).1.sl⟩;{exact(aV h.x (j:=k*2) (u:=U r.1.e) (by have:=cF aS 2 (λ_=>rfl) R k 0 (by omega) _ i;simpa[aS] using this)).1};{exact(aV h.x (j:=k*2+1) (u:=Y (T (N r.2.1 0 Z)) r.1.m r.2.2) (by have:=cF aS 2 (λ_=>rfl) R k 1 (by omega) _ i;simpa[aS] using this)).1}
theorem kf (f:∀i∈L,i.2.1.length<=5000):∀j,j<L.length->(dm L j).s.size<=5000:=by
 intro j b;have e:dm L j=⟨L[j].1,⟨L[j].2.1.toArray⟩,L[j].2.2⟩:=by simp[dm,b]
 rw[e];show L[j].2.1.toArray.size<=5000;simpa using f _ (gz b)
theorem yF (h:IR W lo g c L)(f:base<=lo)(b:∀r∈RT,r.2.1<lo)(m:base<=B (A W))(h1:1<=L.length/\L.length<=200)(l:∀i∈L,i.2.1.length<=5000):PrG base (W.alloc (J #[Y (T (N g 0 Z)) L.length c] 43)) RT (B (A W)) g c L.length (dm L):=by
 have hg:=h.lt;refine⟨gM W _,?_,λr j e=>by have:=b r j;omega,m,h1,kf l⟩;have h2:W.ownsRow base 151 3 (Y (T (N g 0 Z)) L.length c) L.length (bX (dm L) L.length):=by rw[<-sT];exact aC h f
 exact own_below h2 ((BS W).alloc ly _) ly
theorem PrG.put{l c2 i:Nat}{q:Nat->Ins}(h:PrG base W RT b g c n f)(o:W.ownsRow lo 151 3 (Y (T (N l 0 Z)) i c2) i (bX q i))(t:base<=lo)(p:∀r∈RT,r.2.1<lo)(h1:1<=i/\i<=200)(C:∀j,j<i->(q j).s.size<=5000):PrG base (W.setCell (N b 0 Z) (Y (T (N l 0 Z)) i c2)) RT b l c2 i q:=by
 have z:=(World.ownsRow.lt o l rfl).1;refine⟨h.ad.set _,?_,λr ZR e=>by have:=p r ZR;omega,h.lo,h1,C⟩;have y:b≠l:=by intro e;subst e;obtain⟨m,z⟩:=iK o;have:=h.ad.symm.trans z;cases this
 refine aC ?_ t;rcases o with ⟨u,h2|⟨E,cap,m,ZS,hb,x,D⟩⟩;{exact⟨u,.inl h2⟩}
 ·refine⟨u,.inr ⟨E,cap,m,ZS,hb,?_,D⟩⟩;cases ZS
  exact(qh W (N b 0 Z) _ l (λe=>y e.symm)).trans x
theorem SpB.putP{f:Nat}{v0 v1:ZB}{LS:List Source}{v:ZB}(h:SpB f W v0 v1 LS RT)(C:PB W b v)(hb:f+2<=b)(u:ZB):SpB f (W.setCell (N b 0 Z) u) v0 v1 LS RT:=by
 have far:∀k,k≠b->(W.setCell (N b 0 Z) u).heap[k]?=W.heap[k]?:=λk p=>qh W (N b 0 Z) u k (by simpa using p);have l:B (A W)<=(W.setCell (N b 0 Z) u).heap.size:=by simp[World.setCell]
 have o:∀k e,TypeAt W k e->e≠43->k≠b:=by
  intro k e ⟨g,p⟩ q y;subst y;have:=C.symm.trans p;cases this
  exact q rfl
 have i:∀{e:ZH} {size n:Nat} {x:ZB} {t:List ZB},W.ownsRow (f+2) e size x n t->e≠43->(W.setCell (N b 0 Z) u).ownsRow (f+2) e size x n t:=by
  intro e size n x t E q;rcases E with ⟨z,h2|⟨s,cap,g,y,ZS,m,j⟩⟩;{exact⟨z,.inl h2⟩};{exact⟨z,.inr ⟨s,cap,g,y,ZS,(far s (o s e ⟨g,m⟩ q)).trans m,j⟩⟩}
 refine⟨(far f (by omega)).trans h.res,(far (f+1) (by omega)).trans h.ab,i h.src (by decide),i h.j.x (by decide),λr ZR=>?_,h.j.up⟩;obtain⟨h1,⟨F,h2⟩,j,D⟩:=h.j.D r ZR;have e:=far r.2.1 (o r.2.1 151 j (by decide));exact⟨h1.block l e,⟨F,h2.block l e⟩,j.block e,D⟩
def EV (nm tx:ByteArray)(z:Int)(i:Nat):Ins:=([⟨1,nm,0⟩,⟨12,⟨#[]⟩,0⟩,⟨1,tx,0⟩,⟨2,⟨#[]⟩,0⟩,⟨3,⟨#[]⟩,z⟩,⟨15,⟨#[]⟩,0⟩]:List Ins).getD i ⟨0,⟨#[]⟩,0⟩
theorem yG{tx:ByteArray}{z:Int}(h1:nm.size<=5000)(h2:tx.size<=5000):∀j,j<6->(EV nm tx z j).s.size<=5000:=by
 have b:(⟨#[]⟩:ByteArray).size<=5000:=IH _;intro j f;match j,f with
 |0,_=>exact h1
 |1,_=>exact b
 |2,_=>exact h2
 |3,_=>exact b
 |4,_=>exact b
 |5,_=>exact b
 |k+6,h=>exact absurd h (by omega)
abbrev pw (nm tx:ByteArray)(z:Int):Array ZB:=#[Q I 1,U nm,Q I 0,Q I 12,U ⟨#[]⟩,Q I 0,Q I 1,U tx,Q I 0,Q I 2,U ⟨#[]⟩,Q I 0,Q I 3,U ⟨#[]⟩,Q I z,Q I 15,U ⟨#[]⟩,Q I 0]
theorem PrG.six (h:PrG base W RT b g c n f)(j:∀r∈RT,r.2.1<B (A W))(m:base<=B (A W))(nm tx:ByteArray)(z:Int)(h1:nm.size<=5000)(h2:tx.size<=5000):PrG base ((W.setCell (N b 0 Z) (Y (T (N (B (A W)) 0 Z)) 6 6)).alloc (J (pw nm tx z) 151)) RT b (B (A W)) 6 6 (EV nm tx z):=by
 have hz:(W.setCell (N b 0 Z) (Y (T (N (B (A W)) 0 Z)) 6 6)).heap.size=B (A W):=by simp
 have ZS:=(cM (B (A W)) (W.setCell (N b 0 Z) (Y (T (N (B (A W)) 0 Z)) 6 6))).alloc (by rw[hz];exact nX _) (J (pw nm tx z) 151);refine⟨(h.ad.set _).aa ZS h.ad.lt,?_,λr l e=>by have:=j r l;omega,h.lo,⟨by omega,by omega⟩,yG h1 h2⟩;have i:=gM (W.setCell (N b 0 Z) (Y (T (N (B (A W)) 0 Z)) 6 6)) (J (pw nm tx z) 151);rw[hz] at i;exact⟨rfl,.inr ⟨B (A W),6,pw nm tx z,rfl,m,i,nX _,by unfold maxLen;omega,rfl,rfl⟩⟩
end
theorem da{v:ZB}{l:List ZB}{o:Array ZB}{fz:Nat × Nat}(h:w.ownsRow base e size v n l)(hX:w.heap[X]?=T (J o t fz))(m:t≠e)(u:ZB):(w.setCell (N X j Z) u).ownsRow base e size v n l:=by
 rcases h with ⟨f,h2|⟨g,cap,b,q,hb,i,p⟩⟩;{exact⟨f,.inl h2⟩}
 ·refine⟨f,.inr ⟨g,cap,b,q,hb,(qh w (N X j Z) u g ?_).trans i,p⟩⟩;intro r;obtain rfl:g=X:=r;have:=hX.symm.trans i;cases this
  exact m rfl
theorem jt{v:ZB}{i:Array ZB}{fz:Nat × Nat}(h:TRow w base v R)(hX:w.heap[X]?=T (J i t fz))(g:t≠146)(hi:t≠151)(u:ZB):TRow (w.setCell (N X j Z) u) base v R:=by
 refine⟨da h.x hX g u,λr f=>?_,h.up⟩;obtain⟨h1,⟨F,h2⟩,b,l⟩:=h.D r f
 have e:(w.setCell (N X j Z) u).heap[r.2.1]?=w.heap[r.2.1]?:=qh w (N X j Z) u r.2.1 (by
  intro m;obtain rfl:r.2.1=X:=m;obtain⟨cur,n⟩:=b;have:=hX.symm.trans n;cases this
  exact hi rfl)
 exact⟨h1.block (by simp) e,⟨F,h2.block (by simp) e⟩,b.block e,l⟩
theorem gF{b:M}{v:ZB}{f:Array ZB}{fz:Nat × Nat}(j:w.grownBy b v.ownBlock)(g:∀k,v.ownBlock=T k->TypeAt w k e)(hX:w.heap[X]?=T (J f t fz))(h:t≠e):b.heap[X]?=T (J f t fz):=by
 refine(j.block X (ar hX) λi=>?_).trans hX;obtain⟨cur,l⟩:=g X i.symm;have:=hX.symm.trans l;cases this
 exact h rfl
def GX (RT:List TR):Prop:=∀r∈RT,r.1.m<=300/\∀j,j<r.1.m->(r.1.D j).s.size<=5000
theorem GX.add (h:GX RT){r:TR}(h1:r.1.m<=300)(h2:∀j,j<r.1.m->(r.1.D j).s.size<=5000):GX (RT++[r]):=by
 intro y b;rcases BC.1 b with b|b;{exact h y b};{rw[hU.1 b];exact⟨h1,h2⟩}
theorem DO{t:ByteArray}(hM:R.map (·.1)=keepT f t n)(g:∀i,i<n->(f i).m<=300/\∀j,j<(f i).m->((f i).D j).s.size<=5000):GX R:=by
 intro r b;have h1:r.1∈keepT f t n:=by rw[<-hM];exact SK b
 have h2:=(List.mem_filter.1 h1).1;obtain⟨i,hi,e⟩:=KH.1 h2;rw[<-e];exact g i (J4.1 hi)
theorem DT{t:ByteArray}(hM:R.map (·.1)=keepT f t n)(g:∀i,i<n->1<=(f i).m/\(f i).m<=200):∀r∈R,1<=r.1.m/\r.1.m<=200:=by
 intro r b;have h1:r.1∈keepT f t n:=by rw[<-hM];exact SK b
 have h2:=(List.mem_filter.1 h1).1;obtain⟨i,hi,e⟩:=KH.1 h2;rw[<-e];exact g i (J4.1 hi)
theorem xe{t:ByteArray}(hM:R.map (·.1)=keepT f t n):R.length<=n:=by
 have h1:R.length=(keepT f t n).length:=by rw[<-hM,LI]
 have:=QT (λx:Target=>!(x.e.toList == t.toList)) ((List.range n).map f);rw[h1];simpa[keepT] using this
def lsI (L:List Ins)(i:Nat):Ins:=L.getD i ⟨0,⟨#[]⟩,0⟩
theorem sU{L:List Ins}(h:∀x∈L,x.s.size<=5000):∀j,j<L.length->(lsI L j).s.size<=5000:=by
 intro j b;have e:lsI L j=L[j]:=by simp[lsI,b]
 rw[e];exact h _ (gz b)
theorem nu{z:Nat}(hz:B (A w)=z)(x y:ZB)(t:ZH):∀j u,[x,y][j]?=T u->(w.alloc (J #[x,y] t)).cell? (((N z 0 Z):Addr).add j)=T u:=by subst hz;exact cL w x y t
def ju:List Ins:=[⟨1,⟨#[107]⟩,0⟩,⟨15,⟨#[]⟩,0⟩]
def gP (b:ByteArray):List Ins:=[⟨1,b,0⟩,⟨12,⟨#[]⟩,0⟩,⟨15,⟨#[]⟩,0⟩]
theorem vi (w:M)(hb:base<=B (A w)):(w.alloc (J #[Q I 1,U ⟨#[107]⟩,Q I 0,Q I 15,U ⟨#[]⟩,Q I 0] 151)).ownsRow base 151 3 (Y (T (N (B (A w)) 0 Z)) 2 2) 2 (bX (lsI ju) 2) :=
 ⟨rfl,.inr ⟨B (A w),2,_,rfl,hb,gM w _,nX _,by unfold maxLen;omega,rfl,rfl⟩⟩
theorem yH (w:M)(b:ByteArray)(hb:base<=B (A w)):(w.alloc (J #[Q I 1,U b,Q I 0,Q I 12,U ⟨#[]⟩,Q I 0,Q I 15,U ⟨#[]⟩,Q I 0] 151)).ownsRow base 151 3 (Y (T (N (B (A w)) 0 Z)) 3 3) 3 (bX (lsI (gP b)) 3) :=
 ⟨rfl,.inr ⟨B (A w),3,_,rfl,hb,gM w _,nX _,by unfold maxLen;omega,rfl,rfl⟩⟩
theorem sV:∀j,j<2->(lsI ju j).s.size<=5000:=sU (L:=ju) (by decide)
theorem xf{b:ByteArray}(h:b.size<=5000):∀j,j<3->(lsI (gP b) j).s.size<=5000:=sU (L:=gP b) λx f=>by
 simp only[gP,BO,nj,RH] at f;rcases f with rfl|rfl|rfl
 ·exact h
 ·exact IH _
 ·exact IH _
theorem fG{c:Nat}{f:List ZB}(h:w.ownsRow base e size (Y (T (N g 0 Z)) n c) n f)(u:ZB):(w.setCell (N g j Z) u).ownsRow base e size (Y (T (N g 0 Z)) n c) n (f.set j u):=by
 rcases h with ⟨l,⟨h2,_⟩|⟨g',cap,b,r,hb,q,p,o,i,m⟩⟩;{cases h2}
 ·cases r
  refine⟨by rw[JN];exact l,.inr ⟨g,c,b.setIfInBounds j u,rfl,hb,bJ q u,p,o,by rw[Array.size_setIfInBounds];exact i,?_⟩⟩;rw[<-m,MP,T1]
theorem AO (h:∀r∈RT,RowIns w r.2.1 0 r.1.m r.1.D/\(∃F,Cells w r.2.1 0 (r.1.m*3) F)/\TypeAt w r.2.1 151/\base<=r.2.1)(l:TypeAt w b 146)(u:ZB):∀r∈RT,RowIns (w.setCell (N b j Z) u) r.2.1 0 r.1.m r.1.D/\(∃F,Cells (w.setCell (N b j Z) u) r.2.1 0 (r.1.m*3) F)/\TypeAt (w.setCell (N b j Z) u) r.2.1 151/\base<=r.2.1:=by
 intro r i;obtain⟨h1,⟨F,h2⟩,g,m⟩:=h r i
 have e:(w.setCell (N b j Z) u).heap[r.2.1]?=w.heap[r.2.1]?:=qh w (N b j Z) u r.2.1 (by
  intro f;have f:r.2.1=b:=f
  exact dW g (f ▸ l) (by decide) rfl)
 exact⟨h1.block (by simp) e,⟨F,h2.block (by simp) e⟩,g.block e,m⟩
theorem px (hX:X<base)(u:ZB):Agr base w (w.setCell (N X j Z) u) :=
 ⟨by simp,λk h1 _=>qh w (N X j Z) u k (by intro e;have e:k=X:=e;omega)⟩
abbrev TO:=Target × Option Addr × Nat
def toV (r:TO):List ZB:=[U r.1.e,Y r.2.1 r.1.m r.2.2]
def upO (r:TR):TO:=(r.1,T (N r.2.1 0 Z),r.2.2)
theorem nw (RT:List TR):RT.flatMap aS=(RT.map upO).flatMap toV:=by rw[PC];rfl
theorem sW{c:Nat}{L:List TO}(h:w.ownsRow base 146 2 (Y a L.length c) L.length (L.flatMap toV))(f:∀r∈L,SlIns w r.2.1 r.1.m r.1.D):SlTarget w a L.length (bD (L.map (·.1))):=by
 by_cases hn:L.length=0;{exact .inl hn}
 ·obtain⟨g,c',e⟩:=dI h (by omega);simp at e;obtain⟨rfl,rfl⟩:=e;refine .inr ⟨g,0,rfl,(cO h).2,λi hi=>?_⟩;have b:L[i]?=T L[i]:=gq hi;have l:bD (L.map (·.1)) i=L[i].1:=by simp[bD,hi]
  rw[l];refine⟨?_,L[i].2.1,L[i].2.2,?_,f _ (gz hi)⟩;{have:=(aV h (j:=i*2) (u:=U L[i].1.e) (by have:=cF toV 2 (λ_=>rfl) L i 0 (by omega) _ b;simpa[toV] using this)).1;rwa[show 0+i*2=i*2 by omega]};{have:=(aV h (j:=i*2+1) (u:=Y L[i].2.1 L[i].1.m L[i].2.2) (by have:=cF toV 2 (λ_=>rfl) L i 1 (by omega) _ b;simpa[toV] using this)).1;rwa[show 0+i*2+1=i*2+1 by omega]}
structure SpX (rr xb base:Nat)(W:M)(v0 v1:ZB)(LS:List Source)(RT:List TR):Prop where
 res:W.heap[rr]?=T (J #[Y Z 0 0,Y Z 0 0] 27 (0,0))
 ab:W.heap[xb]?=T (J #[v0,v1] 27 (0,0))
 lo:rr<base
 hi:base<=xb
 src:W.ownsRow base 142 2 v0 LS.length (LS.flatMap bi)
 j:TRow W base v1 RT
section
variable {W W':M}{R rr xb base:Nat}{v0 v1:ZB}{LS:List Source}{RT:List TR}
theorem SpX.lt (h:SpX rr xb base W v0 v1 LS RT):xb<B (A W):=ar h.ab
theorem SpX.cells (h:SpX rr xb base W v0 v1 LS RT):W.cell? (N xb 0 Z)=T v0/\W.cell? (N xb 1 Z)=T v1:=by have hb:=h.ab;refine⟨?_,?_⟩<;>simp[World.cell?,hb]
def BxS (v0 v1:ZB)(xb:Nat)(V:M):Prop:=V.heap[xb]?=T (J #[v0,v1] 27 (0,0))/\V.cell? (N xb 0 Z)=T v0
def BxT (v0 v1:ZB)(xb:Nat)(V:M):Prop:=V.heap[xb]?=T (J #[v0,v1] 27 (0,0))/\V.cell? (N xb 1 Z)=T v1
theorem gQ (h:W.heap[xb]?=T (J #[v0,v1] 27 (0,0))):BxS v0 v1 xb W:=⟨h,by simp[World.cell?,h]⟩
theorem sX (h:W.heap[xb]?=T (J #[v0,v1] 27 (0,0))):BxT v0 v1 xb W:=⟨h,by simp[World.cell?,h]⟩
theorem SpX.keepS (h:SpX rr xb base W v0 v1 LS RT)(V:M)(f:∀j,j<B (A W)->T j≠v0.ownBlock->V.heap[j]?=W.heap[j]?):BxS v0 v1 xb V :=
 gQ ((f xb h.lt λe=>by
  obtain⟨cur,b⟩:=dE h.src _ e.symm
  cases h.ab.symm.trans b).trans h.ab)
theorem SpX.keepT (h:SpX rr xb base W v0 v1 LS RT)(V:M)(f:∀j,j<B (A W)->T j≠v1.ownBlock->V.heap[j]?=W.heap[j]?):BxT v0 v1 xb V :=
 sX ((f xb h.lt λe=>by
  obtain⟨cur,b⟩:=h.j.type _ e.symm
  cases h.ab.symm.trans b).trans h.ab)
theorem SpX.open (h:SpX rr xb base W v0 v1 LS RT):W.frozen? (N xb 0 Z)=false/\W.frozen? (N xb 1 Z)=false:=by have hb:=h.ab;refine⟨?_,?_⟩<;>simp[World.frozen?,hb]
theorem SpX.aa (h:SpX rr xb base W v0 v1 LS RT)(hb:Below ZR W W')(b:B (A W)<=ZR):SpX rr xb base W' v0 v1 LS RT:=by have hl:=h.lt;have:=h.lo;have:=h.hi;exact⟨(hb.block rr (by omega)).trans h.res,(hb.block xb (by omega)).trans h.ab,h.lo,h.hi,own_below h.src hb b,h.j.aa hb b⟩
theorem SpX.ac (h:SpX rr xb base W v0 v1 LS RT)(b:Only R W W')(hR:R<rr):SpX rr xb base W' v0 v1 LS RT:=by have hl:=h.lt;have h1:=h.lo;have h2:=h.hi;exact⟨(b.block rr (by omega) (by omega)).trans h.res,(b.block xb (by omega) (by omega)).trans h.ab,h1,h2,fs h.src b (by omega),h.j.ac b (by omega)⟩
theorem SpX.addT{x:Target}{c:Nat}{b:ZB}(h:SpX rr xb base W v0 v1 LS RT)(q:∀r∈RT,r.2.1≠g)(l:W.ownsRow base 151 3 (Y (T (N g 0 Z)) x.m c) x.m (bX x.D x.m))
  (i:W'.ownsRow base 146 2 b (RT.length+1) (RT.flatMap aS++aS (x,g,c))) (f:W.grownBy W' v1.ownBlock):SpX rr xb base (W'.setCell (N xb 1 Z) b) v0 b LS (RT++[(x,g,c)])/\Below base W (W'.setCell (N xb 1 Z) b):=by
 have hlt:=h.lt;have h1:=h.lo;have h2:=h.hi;have hb:base<=g:=(l.lt g rfl).1;have o:Below base W W':=(cM base W).grown f (by omega) λk n=>(h.j.x.lt k n).1;have m:Below base W (W'.setCell (N xb 1 Z) b):=o.setCell (p:=(N xb 1 Z)) h2 b;have j:W'.heap[xb]?=T (J #[v0,v1] 27 (0,0)):=gF f h.j.type h.ab (by decide);refine⟨⟨(m.block rr h1).trans h.res,bJ j b,h1,h2,?_,?_⟩,m⟩
 ·refine da (h.src.kept f ?_) j (by decide) b;cases hv:v0.ownBlock with
  |none=>exact .inl rfl
  |some k=>exact .inr λe=>dW (dE h.src k hv) (h.j.type k e.symm) (by decide) rfl
 {exact jt (h.j.more2 q hb l i f) j (by decide) (by decide) b}
theorem SpX.addS{x:Source}{b:ZB}(h:SpX rr xb base W v0 v1 LS RT)(g:W'.ownsRow base 142 2 b (LS.length+1) (LS.flatMap bi++bi x))(i:W.grownBy W' v0.ownBlock):SpX rr xb base (W'.setCell (N xb 0 Z) b) b v1 (LS++[x]) RT/\Below base W (W'.setCell (N xb 0 Z) b):=by
 have hlt:=h.lt;have h1:=h.lo;have h2:=h.hi;have o:Below base W W':=(cM base W).grown i (by omega) λk f=>(h.src.lt k f).1;have m:Below base W (W'.setCell (N xb 0 Z) b):=o.setCell (p:=(N xb 0 Z)) h2 b;have l:W'.heap[xb]?=T (J #[v0,v1] 27 (0,0)):=gF i (dE h.src) h.ab (by decide);refine⟨⟨(m.block rr h1).trans h.res,bJ l b,h1,h2,?_,?_⟩,m⟩;{have n:=da g l (by decide) (j:=0) b;rw[eL,JA];simpa using n};{exact jt (oE h.j i λk f=>dE h.src k f) l (by decide) (by decide) b}
theorem TRow.mono{base:Nat}(h:TRow W base v1 RT)(hb:base'<=base):TRow W base' v1 RT :=
 ⟨aC h.x hb,λr f=>by obtain⟨h1,h2,b,h4⟩:=h.D r f;exact⟨h1,h2,b,by omega⟩,h.up⟩
theorem vj (f:W.heap[rr]?=T (J #[Y Z 0 0,Y Z 0 0] 27 (0,0)))(b:rr<base)(hb:base<=base')(hz:base<=B (A W))(g:W.ownsRow base' 142 2 v0 LS.length (LS.flatMap bi))(h:TRow W base' v1 RT):SpX rr (B (A W)) base (W.alloc (J #[v0,v1] 27)) v0 v1 LS RT:=by have ZS:=(BS W).alloc ly (J #[v0,v1] 27);exact⟨(ZS.block rr (ar f)).trans f,gM W _,b,hz,own_below (aC g hb) ZS ly,(h.mono hb).aa ZS ly⟩
theorem SpX.fin{c0 c1:Nat}(h:SpX rr xb base W (Y a0 n0 c0) (Y a1 n1 c1) LS RT)(g:n0=LS.length)(b:n1=RT.length)(i:LS.length<=300)(h1:RT.length<=300)(f:GX RT)(u v:ZB):HSp base ((W.setCell (N rr 0 Z) u).setCell (N rr 1 Z) v) a0 n0 (bY LS) a1 n1 (bD (RT.map (·.1))) :=
 eE (aO (aO h.src h.lo u) h.lo v) g ((h.j.set h.lo u).set h.lo v) b i h1 f
theorem SpX.addNil{c0 c1:Nat}(h:SpX rr xb base W (Y a0 LS.length c0) v1 LS RT)(o:W'.ownsRow base 146 2 (Y a1 (RT.length+1) c1) (RT.length+1) (RT.flatMap aS++[U nm,Y Z 0 0]))(f:W.grownBy W' v1.ownBlock)(L:LS.length<=300)(h1:RT.length<=299)(ZM:GX RT):HSp base (W'.setCell (N xb 1 Z) (Y a1 (RT.length+1) c1)) a0 LS.length (bY LS) a1 (RT.length+1) (bD (RT.map (·.1)++[⟨nm,0,λ_=>⟨0,⟨#[]⟩,0⟩⟩]))/\(W'.setCell (N xb 1 Z) (Y a1 (RT.length+1) c1)).heap[xb]?=T (J #[Y a0 LS.length c0,Y a1 (RT.length+1) c1] 27 (0,0))/\(W'.setCell (N xb 1 Z) (Y a1 (RT.length+1) c1)).heap[rr]?=T (J #[Y Z 0 0,Y Z 0 0] 27 (0,0))/\Below base W (W'.setCell (N xb 1 Z) (Y a1 (RT.length+1) c1)):=by
 have hlt:=h.lt;have G:=h.lo;have ZQ:=h.hi;have D:Below base W W':=(cM base W).grown f (by omega) λk C=>(h.j.x.lt k C).1;have ZR:Below base W (W'.setCell (N xb 1 Z) (Y a1 (RT.length+1) c1)):=D.setCell (p:=(N xb 1 Z)) ZQ _;have l:W'.heap[xb]?=T (J #[Y a0 LS.length c0,v1] 27 (0,0)):=gF f h.j.type h.ab (by decide);have n:(W'.setCell (N xb 1 Z) (Y a1 (RT.length+1) c1)).ownsRow base 142 2 (Y a0 LS.length c0) LS.length (LS.flatMap bi):=by
  refine da (h.src.kept f ?_) l (by decide) _;cases hv:(Value.slice a0 LS.length c0).ownBlock with
  |none=>exact .inl rfl
  |some k=>exact .inr λe=>dW (dE h.src k hv) (h.j.type k e.symm) (by decide) rfl
 have u:=da o l (by decide) (j:=1) (Y a1 (RT.length+1) c1);refine⟨⟨λV g=>⟨lU (d9 n g),?_⟩,L,by omega,λi hi=>?_⟩,bJ l _,(ZR.block rr G).trans h.res,ZR⟩
 ·have z:RT.length+1=(RT.map upO++[((⟨nm,0,λ_=>⟨0,⟨#[]⟩,0⟩⟩,Z,0):TO)]).length:=by simp
  have ZS:=d9 u g;rw[nw,show(RT.map upO).flatMap toV++[U nm,Y Z 0 0]=(RT.map upO++[((⟨nm,0,λ_=>⟨0,⟨#[]⟩,0⟩⟩,Z,0):TO)]).flatMap toV by rw[JA];rfl,z] at ZS;have H:=sW ZS ?_
  ·rw[z];have ZO:(RT.map upO++[((⟨nm,0,λ_=>⟨0,⟨#[]⟩,0⟩⟩,Z,0):TO)]).map (·.1)=RT.map (·.1)++[⟨nm,0,λ_=>⟨0,⟨#[]⟩,0⟩⟩]:=by rw[JS,List.map_map];rfl
   rw[<-ZO];exact H
  ·intro r b;rcases BC.1 b with b|b
   ·obtain⟨y,K,rfl⟩:=KH.1 b;obtain⟨x,_,s,E⟩:=h.j.D y K;have z1:=f.block y.2.1 x.1 (λe=>dW s (h.j.type _ e.symm) (by decide) rfl);have z2:=x.block f.size z1;have z3:RowIns (W'.setCell (N xb 1 Z) (Y a1 (RT.length+1) c1)) y.2.1 0 y.1.m y.1.D:=by refine z2.block (by simp) (qh W' (N xb 1 Z) _ y.2.1 ?_);intro q;have q:y.2.1=xb:=q;obtain⟨cur,t⟩:=s.block z1;rw[q] at t;have:=l.symm.trans t;cases this
    exact(z3.block g.1 (g.2 y.2.1 E z3.1)).sl
   {rw[hU.1 b];exact .inl rfl}
 ·by_cases m:i<RT.length
  ·have e:bD (RT.map (·.1)++[⟨nm,0,λ_=>⟨0,⟨#[]⟩,0⟩⟩]) i=RT[i].1:=by simp[bD,List.getElem?_append,m]
   rw[e];exact ZM _ (gz m)
  ·have e:bD (RT.map (·.1)++[⟨nm,0,λ_=>⟨0,⟨#[]⟩,0⟩⟩]) i=⟨nm,0,λ_=>⟨0,⟨#[]⟩,0⟩⟩:=by
    obtain rfl:i=RT.length:=by omega
    simp[bD]
   rw[e];exact⟨by show 0<=300;omega,λj ZP=>absurd ZP (JI _)⟩
theorem SpX.setS{c0:Nat}{LS':List Source}(h:SpX rr xb base W (Y (T (N b 0 Z)) LS.length c0) v1 LS RT)(u:ZB)(i:LS'.length=LS.length)(l:(LS.flatMap bi).set j u=LS'.flatMap bi):SpX rr xb base (W.setCell (N b j Z) u) (Y (T (N b 0 Z)) LS.length c0) v1 LS' RT/\Below base W (W.setCell (N b j Z) u):=by
 have hb:=(h.src.lt b rfl).1;obtain⟨cur,g⟩:=dE h.src b rfl;have far:∀(X:Nat) f,W.heap[X]?=T (J f 27 (0,0))->(W.setCell (N b j Z) u).heap[X]?=T (J f 27 (0,0)):=by intro X f hX;refine(qh W (N b j Z) u X ?_).trans hX;intro e;have e:X=b:=e;subst e;have:=hX.symm.trans g;cases this
 refine⟨⟨far _ _ h.res,far _ _ h.ab,h.lo,h.hi,?_,jt h.j g (by decide) (by decide) u⟩,(cM base W).setCell (p:=(N b j Z)) hb u⟩;have h2:=fG h.src (j:=j) u;rw[l] at h2;rw[i];exact h2
theorem vl{c0 c1:Nat}{L:List TO}(p:W.ownsRow base 142 2 (Y a0 n0 c0) LS.length (LS.flatMap bi))(t:n0=LS.length)(m:W.ownsRow base 146 2 (Y a1 n1 c1) n1 (L.flatMap toV))(l:n1=L.length)(o:LS.length<=300)(h1:L.length<=300)
  (q:∀r∈L,∃g,r.2.1=T (N g 0 Z)/\base<=g/\RowIns W g 0 r.1.m r.1.D) (n:∀r∈L,r.1.m<=300/\∀j,j<r.1.m->(r.1.D j).s.size<=5000):HSp base W a0 n0 (bY LS) a1 n1 (bD (L.map (·.1))):=by
 subst t l;refine⟨λV b=>⟨lU (d9 p b),sW (d9 m b) λr h=>?_⟩,o,h1,λi hi=>?_⟩;{obtain⟨g,e,hb,f⟩:=q r h;rw[e];exact(f.block b.1 (b.2 g hb f.1)).sl}
 ·have e:bD (L.map (·.1)) i=L[i].1:=by simp[bD,hi]
  rw[e];exact n _ (gz hi)
theorem je{c:Nat}{f:List ZB}(h:W.ownsRow b e size (Y a n c) n f)(hn:0<n):∃g,a=T (N g 0 Z):=by obtain⟨g,c',e⟩:=dI h hn;simp at e;exact⟨g,e.1⟩
end
