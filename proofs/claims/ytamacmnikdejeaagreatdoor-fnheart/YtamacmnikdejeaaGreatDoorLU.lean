import Derived.Test.YtamacmnikdejeaaGreatDoorLR
import Derived.Test.YtamacmnikdejeaaGreatDoorLB
open Go renaming Addr.mk->Q,Value.slice->Y,Value.string->U,Value.int->J,Obj.cells->N,IntKind.i64->I,World->E,Value->ZB,TypeId->ZH,World.heap->A
open Option renaming none->Z,some->T
open Array renaming size->B
namespace Go.Proofs.YtamacmnikdejeaaGreatDoor.Vp
open RowKit
variable {w:E}{j X size ZR lo base' n0 n1:Nat}{e t:ZH}{a a0 a1:Option Addr}{L:List I3}{nm:ByteArray}
theorem pT (L:List I3):i3L L=bV (cZ L) L.length:=by
 have e:(List.range L.length).map (cZ L)=L.map λx=>(⟨x.1,⟨x.2.1.toArray⟩,x.2.2⟩:Ins):=by
  refine List.ext_getElem (by simp) λi h1 h2=>?_;have hi:i<L.length:=by simpa using h2
  simp[cZ,hi]
 rw[bV,e,QT];rfl
structure PrG (base:Nat)(W:E)(RT:List TR)(b g c n:Nat)(f:Nat->Ins):Prop where
 ab:PB W b (Y (T (Q g 0 Z)) n c)
 y:W.ownsRow base 146 3 (Y (T (Q g 0 Z)) n c) n (bV f n)
 new:∀r∈RT,r.2.1≠g
 lo:base<=b
 num:1<=n/\n<=200
 sz:∀j,j<n->(f j).s.size<=5000
section
variable {W W':E}{base R b g c n:Nat}{f:Nat->Ins}{RT:List TR}
theorem PrG.aa (h:PrG base W RT b g c n f)(hb:Below ZR W W')(i:B (A W)<=ZR):PrG base W' RT b g c n f :=
 ⟨h.ab.aa hb (lj h.ab.lt i),own_below h.y hb i,h.new,h.lo,h.num,h.sz⟩
theorem PrG.ac (h:PrG base W RT b g c n f)(i:Only R W W')(hR:R<base):PrG base W' RT b g c n f :=
 ⟨(i.block b h.ab.lt (by have:=h.lo;omega)).trans h.ab,fS h.y i hR,h.new,h.lo,h.num,h.sz⟩
theorem TRow.ltg{base:Nat}{v:ZB}{R:List TR}(h:TRow w base v R):∀r∈R,r.2.1<B (A w):=λr b=>(h.u r b).1.1
theorem TRow.atk{base c k:Nat}{R:List TR}(h:TRow w base (Y a R.length c) R)(l:k<R.length):∃(b:Nat) (r:TR),a=T (Q b 0 Z)/\b<B (A w)/\r∈R/\w.cell? (Q b (k*2) Z)=T (U r.1.e)/\w.cell? (Q b (k*2+1) Z)=T (Y (T (Q r.2.1 0 Z)) r.1.h r.2.2)/\SlIns w (T (Q r.2.1 0 Z)) r.1.h r.1.u:=by
 obtain⟨g,c',e⟩:=d9 h.y (by omega);simp at e;obtain⟨rfl,rfl⟩:=e;obtain⟨r,f,i⟩:=wE l;refine⟨g,r,rfl,(cO h.y).2,i,?_,?_,(h.u r i).1.sl⟩;{exact(bk h.y (j:=k*2) (u:=U r.1.e) (by have:=cK aZ 2 (λ_=>rfl) R k 0 (by omega) _ f;simpa[aZ] using this)).1};{exact(bk h.y (j:=k*2+1) (u:=Y (T (Q r.2.1 0 Z)) r.1.h r.2.2) (by have:=cK aZ 2 (λ_=>rfl) R k 1 (by omega) _ f;simpa[aZ] using this)).1}
theorem jq (f:∀i∈L,i.2.1.length<=5000):∀j,j<L.length->(cZ L j).s.size<=5000:=by
 intro j b;have e:cZ L j=⟨L[j].1,⟨L[j].2.1.toArray⟩,L[j].2.2⟩:=by simp[cZ,b]
 rw[e];show L[j].2.1.toArray.size<=5000;simpa using f _ (gz b)
theorem Aj (f:IR W lo g c L)(h:base<=lo)(b:∀r∈RT,r.2.1<lo)(m:base<=B (A W))(h1:1<=L.length/\L.length<=200)(j:∀i∈L,i.2.1.length<=5000):PrG base (W.alloc (N #[Y (T (Q g 0 Z)) L.length c] 43)) RT (B (A W)) g c L.length (cZ L):=by
 have hg:=f.lt;refine⟨gM W _,?_,λr l e=>by have:=b r l;omega,m,h1,jq j⟩;have h2:W.ownsRow base 146 3 (Y (T (Q g 0 Z)) L.length c) L.length (bV (cZ L) L.length):=by rw[<-pT];exact aF f h
 exact own_below h2 ((BS W).alloc ly _) ly
theorem PrG.put{l c2 i:Nat}{q:Nat->Ins}(h:PrG base W RT b g c n f)(p:W.ownsRow lo 146 3 (Y (T (Q l 0 Z)) i c2) i (bV q i))(ZS:base<=lo)(o:∀r∈RT,r.2.1<lo)(h1:1<=i/\i<=200)(ZR:∀j,j<i->(q j).s.size<=5000):PrG base (W.setCell (Q b 0 Z) (Y (T (Q l 0 Z)) i c2)) RT b l c2 i q:=by
 have t:=(World.ownsRow.lt p l rfl).1;refine⟨h.ab.set _,?_,λr C e=>by have:=o r C;omega,h.lo,h1,ZR⟩;have z:b≠l:=by intro e;subst e;obtain⟨m,t⟩:=jf p;have:=h.ab.symm.trans t;cases this
 refine aF ?_ ZS;rcases p with ⟨x,h2|⟨D,cap,m,u,hb,y,ZQ⟩⟩;{exact⟨x,.inl h2⟩}
 ·refine⟨x,.inr ⟨D,cap,m,u,hb,?_,ZQ⟩⟩;cases u
  exact(qh W (Q b 0 Z) _ l (λe=>z e.symm)).trans y
theorem SpB.putP{f:Nat}{v0 v1:ZB}{LS:List Source}{v:ZB}(h:SpB f W v0 v1 LS RT)(D:PB W b v)(hb:f+2<=b)(u:ZB):SpB f (W.setCell (Q b 0 Z) u) v0 v1 LS RT:=by
 have far:∀k,k≠b->(W.setCell (Q b 0 Z) u).heap[k]?=W.heap[k]?:=λk p=>qh W (Q b 0 Z) u k (by simpa using p);have l:B (A W)<=(W.setCell (Q b 0 Z) u).heap.size:=by simp[World.setCell]
 have o:∀k e,TypeAt W k e->e≠43->k≠b:=by
  intro k e ⟨i,p⟩ q t;subst t;have:=D.symm.trans p;cases this
  exact q rfl
 have g:∀{e:ZH} {size n:Nat} {x:ZB} {y:List ZB},W.ownsRow (f+2) e size x n y->e≠43->(W.setCell (Q b 0 Z) u).ownsRow (f+2) e size x n y:=by
  intro e size n x y C q;rcases C with ⟨ZS,h2|⟨s,cap,i,t,z,m,j⟩⟩;{exact⟨ZS,.inl h2⟩};{exact⟨ZS,.inr ⟨s,cap,i,t,z,(far s (o s e ⟨i,m⟩ q)).trans m,j⟩⟩}
 refine⟨(far f (by omega)).trans h.res,(far (f+1) (by omega)).trans h.l,g h.src (by decide),g h.w.y (by decide),λr ZR=>?_,h.w.up⟩;obtain⟨h1,⟨F,h2⟩,j,ZQ⟩:=h.w.u r ZR;have e:=far r.2.1 (o r.2.1 146 j (by decide));exact⟨h1.block l e,⟨F,h2.block l e⟩,j.block e,ZQ⟩
def Gp (nm tx:ByteArray)(z:Int)(i:Nat):Ins:=([⟨1,nm,0⟩,⟨12,⟨#[]⟩,0⟩,⟨1,tx,0⟩,⟨2,⟨#[]⟩,0⟩,⟨3,⟨#[]⟩,z⟩,⟨15,⟨#[]⟩,0⟩]:List Ins).getD i ⟨0,⟨#[]⟩,0⟩
theorem Ak{tx:ByteArray}{z:Int}(h1:nm.size<=5000)(h2:tx.size<=5000):∀j,j<6->(Gp nm tx z j).s.size<=5000:=by
 have b:(⟨#[]⟩:ByteArray).size<=5000:=IH _;intro j f;match j,f with
 |0,_=>exact h1
 |1,_=>exact b
 |2,_=>exact h2
 |3,_=>exact b
 |4,_=>exact b
 |5,_=>exact b
 |k+6,h=>exact absurd h (by omega)
abbrev qK (nm tx:ByteArray)(z:Int):Array ZB:=#[J I 1,U nm,J I 0,J I 12,U ⟨#[]⟩,J I 0,J I 1,U tx,J I 0,J I 2,U ⟨#[]⟩,J I 0,J I 3,U ⟨#[]⟩,J I z,J I 15,U ⟨#[]⟩,J I 0]
theorem PrG.six (h:PrG base W RT b g c n f)(j:∀r∈RT,r.2.1<B (A W))(m:base<=B (A W))(nm tx:ByteArray)(z:Int)(h1:nm.size<=5000)(h2:tx.size<=5000):PrG base ((W.setCell (Q b 0 Z) (Y (T (Q (B (A W)) 0 Z)) 6 6)).alloc (N (qK nm tx z) 146)) RT b (B (A W)) 6 6 (Gp nm tx z):=by
 have hz:(W.setCell (Q b 0 Z) (Y (T (Q (B (A W)) 0 Z)) 6 6)).heap.size=B (A W):=by simp
 have ZS:=(cM (B (A W)) (W.setCell (Q b 0 Z) (Y (T (Q (B (A W)) 0 Z)) 6 6))).alloc (by rw[hz];exact nX _) (N (qK nm tx z) 146);refine⟨(h.ab.set _).aa ZS h.ab.lt,?_,λr l e=>by have:=j r l;omega,h.lo,⟨by omega,by omega⟩,Ak h1 h2⟩;have i:=gM (W.setCell (Q b 0 Z) (Y (T (Q (B (A W)) 0 Z)) 6 6)) (N (qK nm tx z) 146);rw[hz] at i;exact⟨rfl,.inr ⟨B (A W),6,qK nm tx z,rfl,m,i,nX _,by unfold maxLen;omega,rfl,rfl⟩⟩
end
theorem dy{base n:Nat}{v:ZB}{l:List ZB}{m:Array ZB}{fz:Nat × Nat}(h:w.ownsRow base e size v n l)(hX:w.heap[X]?=T (N m t fz))(p:t≠e)(u:ZB):(w.setCell (Q X j Z) u).ownsRow base e size v n l:=by
 rcases h with ⟨f,h2|⟨g,cap,i,o,hb,b,r⟩⟩;{exact⟨f,.inl h2⟩}
 ·refine⟨f,.inr ⟨g,cap,i,o,hb,(qh w (Q X j Z) u g ?_).trans b,r⟩⟩;intro q;obtain rfl:g=X:=q;have:=hX.symm.trans b;cases this
  exact p rfl
theorem jV{base:Nat}{v:ZB}{R:List TR}{f:Array ZB}{fz:Nat × Nat}(h:TRow w base v R)(hX:w.heap[X]?=T (N f t fz))(l:t≠125)(hi:t≠146)(u:ZB):TRow (w.setCell (Q X j Z) u) base v R:=by
 refine⟨dy h.y hX l u,λr g=>?_,h.up⟩;obtain⟨h1,⟨F,h2⟩,b,i⟩:=h.u r g
 have e:(w.setCell (Q X j Z) u).heap[r.2.1]?=w.heap[r.2.1]?:=qh w (Q X j Z) u r.2.1 (by
  intro n;obtain rfl:r.2.1=X:=n;obtain⟨cur,m⟩:=b;have:=hX.symm.trans m;cases this
  exact hi rfl)
 exact⟨h1.block (by simp) e,⟨F,h2.block (by simp) e⟩,b.block e,i⟩
theorem fM{f:E}{v:ZB}{b:Array ZB}{fz:Nat × Nat}(g:w.grownBy f v.ownBlock)(l:∀k,v.ownBlock=T k->TypeAt w k e)(hX:w.heap[X]?=T (N b t fz))(h:t≠e):f.heap[X]?=T (N b t fz):=by
 refine(g.block X (ar hX) λj=>?_).trans hX;obtain⟨cur,i⟩:=l X j.symm;have:=hX.symm.trans i;cases this
 exact h rfl
def GX (RT:List TR):Prop:=∀r∈RT,r.1.h<=300/\∀j,j<r.1.h->(r.1.u j).s.size<=5000
theorem GX.add{RT:List TR}(h:GX RT){r:TR}(h1:r.1.h<=300)(h2:∀j,j<r.1.h->(r.1.u j).s.size<=5000):GX (RT++[r]):=by
 intro y b;rcases wC.1 b with b|b;{exact h y b};{rw[hU.1 b];exact⟨h1,h2⟩}
theorem Fx{f:Nat->Target}{t:ByteArray}{n:Nat}{R:List TR}(hM:R.map (·.1)=keepT f t n)(g:∀i,i<n->(f i).h<=300/\∀j,j<(f i).h->((f i).u j).s.size<=5000):GX R:=by
 intro r b;have h1:r.1∈keepT f t n:=by rw[<-hM];exact PC b
 have h2:=(List.mem_filter.1 h1).1;obtain⟨i,hi,e⟩:=LM.1 h2;rw[<-e];exact g i (KV.1 hi)
theorem Fy{f:Nat->Target}{t:ByteArray}{n:Nat}{R:List TR}(hM:R.map (·.1)=keepT f t n)(g:∀i,i<n->1<=(f i).h/\(f i).h<=200):∀r∈R,1<=r.1.h/\r.1.h<=200:=by
 intro r b;have h1:r.1∈keepT f t n:=by rw[<-hM];exact PC b
 have h2:=(List.mem_filter.1 h1).1;obtain⟨i,hi,e⟩:=LM.1 h2;rw[<-e];exact g i (KV.1 hi)
theorem yD{f:Nat->Target}{t:ByteArray}{n:Nat}{R:List TR}(hM:R.map (·.1)=keepT f t n):R.length<=n:=by
 have h1:R.length=(keepT f t n).length:=by rw[<-hM,MP]
 have:=TA (λx:Target=>!(x.e.toList == t.toList)) ((List.range n).map f);rw[h1];simpa[keepT] using this
def lsI (L:List Ins)(i:Nat):Ins:=L.getD i ⟨0,⟨#[]⟩,0⟩
theorem uC{L:List Ins}(h:∀x∈L,x.s.size<=5000):∀j,j<L.length->(lsI L j).s.size<=5000:=by
 intro j b;have e:lsI L j=L[j]:=by simp[lsI,b]
 rw[e];exact h _ (gz b)
theorem oP{z:Nat}(hz:B (A w)=z)(x y:ZB)(t:ZH):∀j u,[x,y][j]?=T u->(w.alloc (N #[x,y] t)).cell? (((Q z 0 Z):Addr).add j)=T u:=by subst hz;exact cT w x y t
def jW:List Ins:=[⟨1,⟨#[107]⟩,0⟩,⟨15,⟨#[]⟩,0⟩]
def iu (b:ByteArray):List Ins:=[⟨1,b,0⟩,⟨12,⟨#[]⟩,0⟩,⟨15,⟨#[]⟩,0⟩]
theorem wV (w:E){base:Nat}(hb:base<=B (A w)):(w.alloc (N #[J I 1,U ⟨#[107]⟩,J I 0,J I 15,U ⟨#[]⟩,J I 0] 146)).ownsRow base 146 3 (Y (T (Q (B (A w)) 0 Z)) 2 2) 2 (bV (lsI jW) 2) :=
 ⟨rfl,.inr ⟨B (A w),2,_,rfl,hb,gM w _,nX _,by unfold maxLen;omega,rfl,rfl⟩⟩
theorem Al (w:E)(b:ByteArray){base:Nat}(hb:base<=B (A w)):(w.alloc (N #[J I 1,U b,J I 0,J I 12,U ⟨#[]⟩,J I 0,J I 15,U ⟨#[]⟩,J I 0] 146)).ownsRow base 146 3 (Y (T (Q (B (A w)) 0 Z)) 3 3) 3 (bV (lsI (iu b)) 3) :=
 ⟨rfl,.inr ⟨B (A w),3,_,rfl,hb,gM w _,nX _,by unfold maxLen;omega,rfl,rfl⟩⟩
theorem uD:∀j,j<2->(lsI jW j).s.size<=5000:=uC (L:=jW) (by decide)
theorem yE{b:ByteArray}(h:b.size<=5000):∀j,j<3->(lsI (iu b) j).s.size<=5000:=uC (L:=iu b) λx f=>by
 simp only[iu,A9,nj,NJ] at f;rcases f with rfl|rfl|rfl
 ·exact h
 ·exact IH _
 ·exact IH _
theorem gw{base n g c:Nat}{f:List ZB}(h:w.ownsRow base e size (Y (T (Q g 0 Z)) n c) n f)(u:ZB):(w.setCell (Q g j Z) u).ownsRow base e size (Y (T (Q g 0 Z)) n c) n (f.set j u):=by
 rcases h with ⟨p,⟨h2,_⟩|⟨g',cap,b,l,hb,i,r,q,o,m⟩⟩;{cases h2}
 ·cases l
  refine⟨by rw[KQ];exact p,.inr ⟨g,c,b.setIfInBounds j u,rfl,hb,ci i u,r,q,by rw[Array.size_setIfInBounds];exact o,?_⟩⟩;rw[<-m,NS,U3]
theorem Dj{base b:Nat}{RT:List TR}(h:∀r∈RT,RowIns w r.2.1 0 r.1.h r.1.u/\(∃F,Cells w r.2.1 0 (r.1.h*3) F)/\TypeAt w r.2.1 146/\base<=r.2.1)(m:TypeAt w b 125)(u:ZB):∀r∈RT,RowIns (w.setCell (Q b j Z) u) r.2.1 0 r.1.h r.1.u/\(∃F,Cells (w.setCell (Q b j Z) u) r.2.1 0 (r.1.h*3) F)/\TypeAt (w.setCell (Q b j Z) u) r.2.1 146/\base<=r.2.1:=by
 intro r i;obtain⟨h1,⟨F,h2⟩,g,l⟩:=h r i
 have e:(w.setCell (Q b j Z) u).heap[r.2.1]?=w.heap[r.2.1]?:=qh w (Q b j Z) u r.2.1 (by
  intro f;have f:r.2.1=b:=f
  exact eE g (f ▸ m) (by decide) rfl)
 exact⟨h1.block (by simp) e,⟨F,h2.block (by simp) e⟩,g.block e,l⟩
theorem qL{base:Nat}(hX:X<base)(u:ZB):Agr base w (w.setCell (Q X j Z) u) :=
 ⟨by simp,λk h1 _=>qh w (Q X j Z) u k (by intro e;have e:k=X:=e;omega)⟩
abbrev TO:=Target × Option Addr × Nat
def toV (r:TO):List ZB:=[U r.1.e,Y r.2.1 r.1.h r.2.2]
def upO (r:TR):TO:=(r.1,T (Q r.2.1 0 Z),r.2.2)
theorem oQ (RT:List TR):RT.flatMap aZ=(RT.map upO).flatMap toV:=by rw[QT];rfl
theorem uE{base c:Nat}{L:List TO}(h:w.ownsRow base 125 2 (Y a L.length c) L.length (L.flatMap toV))(l:∀r∈L,SlIns w r.2.1 r.1.h r.1.u):SlTarget w a L.length (bK (L.map (·.1))):=by
 by_cases hn:L.length=0;{exact .inl hn}
 ·obtain⟨g,c',e⟩:=d9 h (by omega);simp at e;obtain⟨rfl,rfl⟩:=e;refine .inr ⟨g,0,rfl,(cO h).2,λi hi=>?_⟩;have b:L[i]?=T L[i]:=gq hi;have f:bK (L.map (·.1)) i=L[i].1:=by simp[bK,hi]
  rw[f];refine⟨?_,L[i].2.1,L[i].2.2,?_,l _ (gz hi)⟩;{have:=(bk h (j:=i*2) (u:=U L[i].1.e) (by have:=cK toV 2 (λ_=>rfl) L i 0 (by omega) _ b;simpa[toV] using this)).1;rwa[show 0+i*2=i*2 by omega]};{have:=(bk h (j:=i*2+1) (u:=Y L[i].2.1 L[i].1.h L[i].2.2) (by have:=cK toV 2 (λ_=>rfl) L i 1 (by omega) _ b;simpa[toV] using this)).1;rwa[show 0+i*2+1=i*2+1 by omega]}
structure SpX (rr xb base:Nat)(W:E)(v0 v1:ZB)(LS:List Source)(RT:List TR):Prop where
 res:W.heap[rr]?=T (N #[Y Z 0 0,Y Z 0 0] 29 (0,0))
 l:W.heap[xb]?=T (N #[v0,v1] 29 (0,0))
 lo:rr<base
 hi:base<=xb
 src:W.ownsRow base 121 2 v0 LS.length (LS.flatMap bC)
 w:TRow W base v1 RT
section
variable {W W':E}{R rr xb base:Nat}{v0 v1:ZB}{LS:List Source}{RT:List TR}
theorem SpX.lt (h:SpX rr xb base W v0 v1 LS RT):xb<B (A W):=ar h.l
theorem SpX.cells (h:SpX rr xb base W v0 v1 LS RT):W.cell? (Q xb 0 Z)=T v0/\W.cell? (Q xb 1 Z)=T v1:=by have hb:=h.l;refine⟨?_,?_⟩<;>simp[World.cell?,hb]
def BxS (v0 v1:ZB)(xb:Nat)(V:E):Prop:=V.heap[xb]?=T (N #[v0,v1] 29 (0,0))/\V.cell? (Q xb 0 Z)=T v0
def BxT (v0 v1:ZB)(xb:Nat)(V:E):Prop:=V.heap[xb]?=T (N #[v0,v1] 29 (0,0))/\V.cell? (Q xb 1 Z)=T v1
theorem iv (h:W.heap[xb]?=T (N #[v0,v1] 29 (0,0))):BxS v0 v1 xb W:=⟨h,by simp[World.cell?,h]⟩
theorem uF (h:W.heap[xb]?=T (N #[v0,v1] 29 (0,0))):BxT v0 v1 xb W:=⟨h,by simp[World.cell?,h]⟩
theorem SpX.keepS (h:SpX rr xb base W v0 v1 LS RT)(V:E)(f:∀j,j<B (A W)->T j≠v0.ownBlock->V.heap[j]?=W.heap[j]?):BxS v0 v1 xb V :=
 iv ((f xb h.lt λe=>by
  obtain⟨cur,b⟩:=dY h.src _ e.symm
  cases h.l.symm.trans b).trans h.l)
theorem SpX.keepT (h:SpX rr xb base W v0 v1 LS RT)(V:E)(f:∀j,j<B (A W)->T j≠v1.ownBlock->V.heap[j]?=W.heap[j]?):BxT v0 v1 xb V :=
 uF ((f xb h.lt λe=>by
  obtain⟨cur,b⟩:=h.w.type _ e.symm
  cases h.l.symm.trans b).trans h.l)
theorem SpX.open (h:SpX rr xb base W v0 v1 LS RT):W.frozen? (Q xb 0 Z)=false/\W.frozen? (Q xb 1 Z)=false:=by have hb:=h.l;refine⟨?_,?_⟩<;>simp[World.frozen?,hb]
theorem SpX.aa (h:SpX rr xb base W v0 v1 LS RT)(hb:Below ZR W W')(b:B (A W)<=ZR):SpX rr xb base W' v0 v1 LS RT:=by have hl:=h.lt;have:=h.lo;have:=h.hi;exact⟨(hb.block rr (by omega)).trans h.res,(hb.block xb (by omega)).trans h.l,h.lo,h.hi,own_below h.src hb b,h.w.aa hb b⟩
theorem SpX.ac (h:SpX rr xb base W v0 v1 LS RT)(b:Only R W W')(hR:R<rr):SpX rr xb base W' v0 v1 LS RT:=by have hl:=h.lt;have h1:=h.lo;have h2:=h.hi;exact⟨(b.block rr (by omega) (by omega)).trans h.res,(b.block xb (by omega) (by omega)).trans h.l,h1,h2,fS h.src b (by omega),h.w.ac b (by omega)⟩
theorem SpX.addT{x:Target}{g c:Nat}{b:ZB}(h:SpX rr xb base W v0 v1 LS RT)(q:∀r∈RT,r.2.1≠g)(m:W.ownsRow base 146 3 (Y (T (Q g 0 Z)) x.h c) x.h (bV x.u x.h))
  (j:W'.ownsRow base 125 2 b (RT.length+1) (RT.flatMap aZ++aZ (x,g,c))) (f:W.grownBy W' v1.ownBlock):SpX rr xb base (W'.setCell (Q xb 1 Z) b) v0 b LS (RT++[(x,g,c)])/\Below base W (W'.setCell (Q xb 1 Z) b):=by
 have hlt:=h.lt;have h1:=h.lo;have h2:=h.hi;have hb:base<=g:=(m.lt g rfl).1;have o:Below base W W':=(cM base W).grown f (by omega) λk n=>(h.w.y.lt k n).1;have l:Below base W (W'.setCell (Q xb 1 Z) b):=o.setCell (p:=(Q xb 1 Z)) h2 b;have i:W'.heap[xb]?=T (N #[v0,v1] 29 (0,0)):=fM f h.w.type h.l (by decide);refine⟨⟨(l.block rr h1).trans h.res,ci i b,h1,h2,?_,?_⟩,l⟩
 ·refine dy (h.src.kept f ?_) i (by decide) b;cases hv:v0.ownBlock with
  |none=>exact .inl rfl
  |some k=>exact .inr λe=>eE (dY h.src k hv) (h.w.type k e.symm) (by decide) rfl
 {exact jV (h.w.more2 q hb m j f) i (by decide) (by decide) b}
theorem SpX.addS{x:Source}{b:ZB}(h:SpX rr xb base W v0 v1 LS RT)(l:W'.ownsRow base 121 2 b (LS.length+1) (LS.flatMap bC++bC x))(f:W.grownBy W' v0.ownBlock):SpX rr xb base (W'.setCell (Q xb 0 Z) b) b v1 (LS++[x]) RT/\Below base W (W'.setCell (Q xb 0 Z) b):=by
 have hlt:=h.lt;have h1:=h.lo;have h2:=h.hi;have n:Below base W W':=(cM base W).grown f (by omega) λk i=>(h.src.lt k i).1;have m:Below base W (W'.setCell (Q xb 0 Z) b):=n.setCell (p:=(Q xb 0 Z)) h2 b;have g:W'.heap[xb]?=T (N #[v0,v1] 29 (0,0)):=fM f (dY h.src) h.l (by decide);refine⟨⟨(m.block rr h1).trans h.res,ci g b,h1,h2,?_,?_⟩,m⟩;{have o:=dy l g (by decide) (j:=0) b;rw[eL,KE];simpa using o};{exact jV (pO h.w f λk i=>dY h.src k i) g (by decide) (by decide) b}
theorem TRow.mono{base:Nat}(h:TRow W base v1 RT)(hb:base'<=base):TRow W base' v1 RT :=
 ⟨aF h.y hb,λr b=>by obtain⟨h1,h2,f,h4⟩:=h.u r b;exact⟨h1,h2,f,by omega⟩,h.up⟩
theorem qM (b:W.heap[rr]?=T (N #[Y Z 0 0,Y Z 0 0] 29 (0,0)))(f:rr<base)(hb:base<=base')(hz:base<=B (A W))(h:W.ownsRow base' 121 2 v0 LS.length (LS.flatMap bC))(g:TRow W base' v1 RT):SpX rr (B (A W)) base (W.alloc (N #[v0,v1] 29)) v0 v1 LS RT:=by have ZS:=(BS W).alloc ly (N #[v0,v1] 29);exact⟨(ZS.block rr (ar b)).trans b,gM W _,f,hz,own_below (aF h hb) ZS ly,(g.mono hb).aa ZS ly⟩
theorem SpX.fin{c0 c1:Nat}(h:SpX rr xb base W (Y a0 n0 c0) (Y a1 n1 c1) LS RT)(b:n0=LS.length)(g:n1=RT.length)(i:LS.length<=300)(h1:RT.length<=300)(f:GX RT)(u v:ZB):HSp base ((W.setCell (Q rr 0 Z) u).setCell (Q rr 1 Z) v) a0 n0 (cI LS) a1 n1 (bK (RT.map (·.1))) :=
 fi (aE (aE h.src h.lo u) h.lo v) b ((h.w.set h.lo u).set h.lo v) g i h1 f
theorem SpX.addNil{c0 c1:Nat}(h:SpX rr xb base W (Y a0 LS.length c0) v1 LS RT)(q:W'.ownsRow base 125 2 (Y a1 (RT.length+1) c1) (RT.length+1) (RT.flatMap aZ++[U nm,Y Z 0 0]))(f:W.grownBy W' v1.ownBlock)(H:LS.length<=300)(h1:RT.length<=299)(C:GX RT):HSp base (W'.setCell (Q xb 1 Z) (Y a1 (RT.length+1) c1)) a0 LS.length (cI LS) a1 (RT.length+1) (bK (RT.map (·.1)++[⟨nm,0,λ_=>⟨0,⟨#[]⟩,0⟩⟩]))/\(W'.setCell (Q xb 1 Z) (Y a1 (RT.length+1) c1)).heap[xb]?=T (N #[Y a0 LS.length c0,Y a1 (RT.length+1) c1] 29 (0,0))/\(W'.setCell (Q xb 1 Z) (Y a1 (RT.length+1) c1)).heap[rr]?=T (N #[Y Z 0 0,Y Z 0 0] 29 (0,0))/\Below base W (W'.setCell (Q xb 1 Z) (Y a1 (RT.length+1) c1)):=by
 have hlt:=h.lt;have K:=h.lo;have L:=h.hi;have ZQ:Below base W W':=(cM base W).grown f (by omega) λk ZP=>(h.w.y.lt k ZP).1;have ZS:Below base W (W'.setCell (Q xb 1 Z) (Y a1 (RT.length+1) c1)):=ZQ.setCell (p:=(Q xb 1 Z)) L _;have l:W'.heap[xb]?=T (N #[Y a0 LS.length c0,v1] 29 (0,0)):=fM f h.w.type h.l (by decide);have n:(W'.setCell (Q xb 1 Z) (Y a1 (RT.length+1) c1)).ownsRow base 121 2 (Y a0 LS.length c0) LS.length (LS.flatMap bC):=by
  refine dy (h.src.kept f ?_) l (by decide) _;cases hv:(Value.slice a0 LS.length c0).ownBlock with
  |none=>exact .inl rfl
  |some k=>exact .inr λe=>eE (dY h.src k hv) (h.w.type k e.symm) (by decide) rfl
 have t:=dy q l (by decide) (j:=1) (Y a1 (RT.length+1) c1);refine⟨⟨λV g=>⟨ni (eO n g),?_⟩,H,by omega,λi hi=>?_⟩,ci l _,(ZS.block rr K).trans h.res,ZS⟩
 ·have u:RT.length+1=(RT.map upO++[((⟨nm,0,λ_=>⟨0,⟨#[]⟩,0⟩⟩,Z,0):TO)]).length:=by simp
  have z:=eO t g;rw[oQ,show(RT.map upO).flatMap toV++[U nm,Y Z 0 0]=(RT.map upO++[((⟨nm,0,λ_=>⟨0,⟨#[]⟩,0⟩⟩,Z,0):TO)]).flatMap toV by rw[KE];rfl,u] at z;have M:=uE z ?_
  ·rw[u];have G:(RT.map upO++[((⟨nm,0,λ_=>⟨0,⟨#[]⟩,0⟩⟩,Z,0):TO)]).map (·.1)=RT.map (·.1)++[⟨nm,0,λ_=>⟨0,⟨#[]⟩,0⟩⟩]:=by rw[KI,List.map_map];rfl
   rw[<-G];exact M
  ·intro r b;rcases wC.1 b with b|b
   ·obtain⟨y,ZN,rfl⟩:=LM.1 b;obtain⟨x,_,ZR,D⟩:=h.w.u y ZN;have z1:=f.block y.2.1 x.1 (λe=>eE ZR (h.w.type _ e.symm) (by decide) rfl);have z2:=x.block f.size z1;have z3:RowIns (W'.setCell (Q xb 1 Z) (Y a1 (RT.length+1) c1)) y.2.1 0 y.1.h y.1.u:=by refine z2.block (by simp) (qh W' (Q xb 1 Z) _ y.2.1 ?_);intro o;have o:y.2.1=xb:=o;obtain⟨cur,s⟩:=ZR.block z1;rw[o] at s;have:=l.symm.trans s;cases this
    exact(z3.block g.1 (g.2 y.2.1 D z3.1)).sl
   {rw[hU.1 b];exact .inl rfl}
 ·by_cases m:i<RT.length
  ·have e:bK (RT.map (·.1)++[⟨nm,0,λ_=>⟨0,⟨#[]⟩,0⟩⟩]) i=RT[i].1:=by simp[bK,List.getElem?_append,m]
   rw[e];exact C _ (gz m)
  ·have e:bK (RT.map (·.1)++[⟨nm,0,λ_=>⟨0,⟨#[]⟩,0⟩⟩]) i=⟨nm,0,λ_=>⟨0,⟨#[]⟩,0⟩⟩:=by
    obtain rfl:i=RT.length:=by omega
    simp[bK]
   rw[e];exact⟨by show 0<=300;omega,λj ZO=>absurd ZO (KO _)⟩
theorem SpX.setS{b c0:Nat}{LS':List Source}(h:SpX rr xb base W (Y (T (Q b 0 Z)) LS.length c0) v1 LS RT)(u:ZB)(l:LS'.length=LS.length)(i:(LS.flatMap bC).set j u=LS'.flatMap bC):SpX rr xb base (W.setCell (Q b j Z) u) (Y (T (Q b 0 Z)) LS.length c0) v1 LS' RT/\Below base W (W.setCell (Q b j Z) u):=by
 have hb:=(h.src.lt b rfl).1;obtain⟨cur,g⟩:=dY h.src b rfl;have far:∀(X:Nat) f,W.heap[X]?=T (N f 29 (0,0))->(W.setCell (Q b j Z) u).heap[X]?=T (N f 29 (0,0)):=by intro X f hX;refine(qh W (Q b j Z) u X ?_).trans hX;intro e;have e:X=b:=e;subst e;have:=hX.symm.trans g;cases this
 refine⟨⟨far _ _ h.res,far _ _ h.l,h.lo,h.hi,?_,jV h.w g (by decide) (by decide) u⟩,(cM base W).setCell (p:=(Q b j Z)) hb u⟩;have h2:=gw h.src (j:=j) u;rw[i] at h2;rw[l];exact h2
theorem wW{c0 c1:Nat}{L:List TO}(o:W.ownsRow base 121 2 (Y a0 n0 c0) LS.length (LS.flatMap bC))(h:n0=LS.length)(q:W.ownsRow base 125 2 (Y a1 n1 c1) n1 (L.flatMap toV))(n:n1=L.length)(t:LS.length<=300)(h1:L.length<=300)
  (m:∀r∈L,∃g,r.2.1=T (Q g 0 Z)/\base<=g/\RowIns W g 0 r.1.h r.1.u) (p:∀r∈L,r.1.h<=300/\∀j,j<r.1.h->(r.1.u j).s.size<=5000):HSp base W a0 n0 (cI LS) a1 n1 (bK (L.map (·.1))):=by
 subst h n;refine⟨λV b=>⟨ni (eO o b),uE (eO q b) λr l=>?_⟩,t,h1,λi hi=>?_⟩;{obtain⟨g,e,hb,f⟩:=m r l;rw[e];exact(f.block b.1 (b.2 g hb f.1)).sl}
 ·have e:bK (L.map (·.1)) i=L[i].1:=by simp[bK,hi]
  rw[e];exact p _ (gz hi)
theorem jF{b n c:Nat}{f:List ZB}(h:W.ownsRow b e size (Y a n c) n f)(hn:0<n):∃g,a=T (Q g 0 Z):=by obtain⟨g,c',e⟩:=d9 h hn;simp at e;exact⟨g,e.1⟩
end
