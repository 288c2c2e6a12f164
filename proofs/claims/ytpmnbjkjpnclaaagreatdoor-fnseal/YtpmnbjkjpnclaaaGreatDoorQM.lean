import Derived.Test.YtpmnbjkjpnclaaaGreatDoorQD
import Derived.Deep.WholeRow
import Derived.Test.YtpmnbjkjpnclaaaGreatDoorSP
import Derived.Deep.DeepCutAuto
set_option maxRecDepth 1000000
set_option maxHeartbeats 8000000
set_option linter.unusedSimpArgs false
open Go renaming Addr.mk->Q,Value.slice->Z,Value.string->U,Value.int->N,Value.bool->ZD,Value.agg->ZH,Obj.cells->J,IntKind.i64->I,World->M,Value->ZC,TypeId->ZI,Ending.returned->ZF,World.cell?->A
open Option renaming none->Y,some->T
open Bool renaming false->ZA,true->ZG
namespace Go.Proofs.YtpmnbjkjpnclaaaGreatDoor.Vp
open Tryz RowKit
variable {w u:M}{base g n cap B op j:Nat}{e:ZI}{x:ByteArray}{s r b:List ByteArray}{i:List ZC}
def m0:Mst:={ S:=λ_=>⟨#[]⟩,size:=0,place:=0,steps:=0,looks:=0,t:=AK }
theorem my (b:Bool):(ik b).size<=2000:=by cases b<;>decide
def Six (w:M)(g:Nat):Prop:=g<w.heap.size/\∀j,j<6->∃v,A w (Q g j Y)=T v/\w.frozen? (Q g j Y)=ZA
theorem Six.aa{f:M}(h:Six w g)(b:Below B w f)(c:g<B):Six f g:=⟨lj h.1 b.size,λj i=>by
 obtain⟨v,h1,h2⟩:=h.2 j i
 exact⟨v,(b.cell (p:=(Q g j Y)) c).trans h1,(b.frozen (p:=(Q g j Y)) c).trans h2⟩⟩
theorem Six.G{i:M}{b:Nat}(h:Six w g)(c:Only b w i)(f:g≠b):Six i g:=⟨lj h.1 c.size,λj l=>by
 obtain⟨v,h1,h2⟩:=h.2 j l
 exact⟨v,(c.cell g j h.1 f).trans h1,(c.frozen g j h.1 f).trans h2⟩⟩
theorem yr (w:M)(v0 v1 v2 v3 v4 v5:ZC)(t:ZI):Six (w.alloc (J #[v0,v1,v2,v3,v4,v5] t)) w.heap.size:=⟨by simp,λj hj=>by
 rcases(show j=0∨j=1∨j=2∨j=3∨j=4∨j=5 by omega) with rfl|rfl|rfl|rfl|rfl|rfl
 all_goals exact⟨_,by simp;rfl,by simp⟩⟩
theorem jJ (h:Below B u w)(b:B<=g)(v0 v1 v2 v3 v4 v5:ZC):Below B u ((((((w.setCell (Q g 0 Y) v0).setCell (Q g 1 Y) v1).setCell (Q g 2 Y) v2).setCell (Q g 3 Y) v3).setCell (Q g 4 Y) v4).setCell (Q g 5 Y) v5) :=
 (((((h.setCell b v0).setCell b v1).setCell b v2).setCell b v3).setCell b v4).setCell b v5
def badT:Turn:=⟨ZA,9,⟨#[]⟩,ZA,⟨#[]⟩,0⟩
def ua (f:Nat->Ins)(cnt:Nat)(y:Nat->aI)(n:Nat):Turn:=if valid f cnt=ZA then badT else if 200<n then badT else if bU y n=ZA then badT else dn f cnt y n 2001 0 0 0 []
abbrev ei (at_:Int)(sv:ZC)(st lk:Int)(f:Bool)(c:Int)(x:ByteArray)(ask:Bool)(nm:ByteArray)(b:Bool):ZC :=
 ZH #[N I at_,sv,N I st,N I lk,ZD f,N I c,U x,ZD ask,U nm,ZD b]
theorem dY (h:Below B u w)(b:B<=g)(v0 v1 v2 v3 v4 v5 v6 v7 v8 v9:ZC):Below B u ((((((((((w.setCell (Q g 0 Y) v0).setCell (Q g 1 Y) v1).setCell (Q g 2 Y) v2).setCell (Q g 3 Y) v3).setCell (Q g 4 Y) v4).setCell (Q g 5 Y) v5).setCell (Q g 6 Y) v6).setCell (Q g 7 Y) v7).setCell (Q g 8 Y) v8).setCell (Q g 9 Y) v9) :=
 (((((((((h.setCell b v0).setCell b v1).setCell b v2).setCell b v3).setCell b v4).setCell b v5).setCell b v6).setCell b v7).setCell b v8).setCell b v9
theorem fM (at_:Int)(a:Option Addr)(n cap:Nat)(st lk:Int)(f:Bool)(c0:Int)(g:ByteArray)(ask:Bool)(nm:ByteArray)(b:Bool)(c:Int)(x:ByteArray)(w:M):Calls Tryz.prog 211 #[ei at_ (Z a n cap) st lk f c0 g ask nm b,N I c,U x] w λe w'=>e=ZF (ei at_ (Z a n cap) st lk ZG c x ask nm b)/\Below w.heap.size w w':=by go_enter func211,ntmps211;go_wp2;refine bp (v:=ei at_ (Z a n cap) st lk ZG c x ask nm b) (by simp[results,results211,go_sem]) rfl ⟨rfl,(br.alloc ly _).alloc (by simp) _⟩
theorem xq (op:Nat)(w:M)(h1:1<=op)(h15:op<=15):Calls Tryz.prog 212 #[N I op] w λe w'=>e=ZF (.tuple #[N I (ba op),N I (cB op)])/\w'=w:=by
 rcases(show op=1∨op=2∨op=3∨op=4∨op=5∨op=6∨op=7∨op=8∨op=9∨op=10∨op=11∨op=12∨op=13∨op=14∨op=15 by omega) with rfl|rfl|rfl|rfl|rfl|rfl|rfl|rfl|rfl|rfl|rfl|rfl|rfl|rfl|rfl;all_goals
  go_enter func212,ntmps212;go_wp2;refine bp (v:=.tuple #[N I (ba _),N I (cB _)]) (by simp[results,results212,go_sem,ba,cB]) rfl ⟨rfl,rfl⟩
def bT (op n:Nat)(t a b:ByteArray):List ByteArray :=
 match op with
 |1=>[t]
 |2=>[b++a]
 |3=>[if n<a.size then a.extract 0 n else a]
 |4=>[if n<a.size then a.extract n a.size else ⟨#[]⟩]
 |5=>[kE a n]
 |6=>[ik (a.toList == b.toList)]
 |7=>[a,a]
 |8=>[a,b]
 |_=>[]
theorem ny (w:M)(x:ByteArray)(g:Nat)(b:g=w.heap.size):ud (w.alloc (J #[U x] 9)) g 0 1 (λi=>[x].getD i ⟨#[]⟩):=by
 subst b
 exact⟨by simp,λi hi=>by
  obtain rfl:i=0:=by omega
  simp⟩
theorem Jw (w:M)(x y:ByteArray)(g:Nat)(b:g=w.heap.size):ud (w.alloc (J #[U x,U y] 9)) g 0 2 (λi=>[x,y].getD i ⟨#[]⟩):=by subst b;exact⟨by simp,λi hi=>by rcases(show i=0∨i=1 by omega) with rfl|rfl<;>simp⟩
theorem xr (op n:Nat)(t a b:ByteArray)(w:M)(h1:1<=op)(h8:op<=8)(m:a.size<=2000)(hb:b.size<=2000)(hn:n<=2000):Calls Tryz.prog 214 #[ZH #[N I op,U t,N I n],U a,U b] w λe w'=>∃g,e=ZF (Z (T (Q g 0 Y)) (bT op n t a b).length (bT op n t a b).length)/\ud w' g 0 (bT op n t a b).length (λi=>(bT op n t a b).getD i ⟨#[]⟩)/\w.heap.size<=g/\Below w.heap.size w w':=by
 have c:=ae ((q9 w).alloc ly (J #[N I op,U t,N I n] 151));rcases(show op=1∨op=2∨op=3∨op=4∨op=5∨op=6∨op=7∨op=8 by omega) with rfl|rfl|rfl|rfl|rfl|rfl|rfl|rfl;{go_enter SE,RJ;go_wp2;go_ret;exact⟨_,rfl,ny _ t _ (by simp),by simp,c.alloc (by simp) _⟩};{go_enter SE,RJ;go_wp2;go_ret;exact⟨_,rfl,ny _ (b++a) _ (by simp),by simp,c.alloc (by simp) _⟩}
 ·by_cases h:(n:Int)<a.size
  ·have e:bT 3 n t a b=[a.extract 0 n]:=by simp[bT];omega
   rw[e];clear e;go_enter SE,RJ;go_wp2;go_ret;exact⟨_,rfl,ny _ _ _ (by simp),by simp,c.alloc (by simp) _⟩
  ·have e:bT 3 n t a b=[a]:=by simp[bT];omega
   rw[e];clear e;go_enter SE,RJ;go_wp2;go_ret;exact⟨_,rfl,ny _ _ _ (by simp),by simp,c.alloc (by simp) _⟩
 ·by_cases h:(n:Int)<a.size
  ·have e:bT 4 n t a b=[a.extract n a.size]:=by simp[bT];omega
   rw[e];clear e;go_enter SE,RJ;go_wp2;go_ret;exact⟨_,rfl,ny _ _ _ (by simp),by simp,c.alloc (by simp) _⟩
  ·have e:bT 4 n t a b=[⟨#[]⟩]:=by simp[bT];omega
   rw[e];clear e;go_enter SE,RJ;go_wp2;go_ret;exact⟨_,rfl,ny _ _ _ (by simp),by simp,c.alloc (by simp) _⟩
 {go_enter SE,RJ;go_wp2_with fail;refine(xj a n _ m hn).mono ?_;rintro e l ⟨rfl,f⟩;have j:=ae (c.trans (f.mono (by simp)));clear f;go_wp2;go_ret;exact⟨_,rfl,ny _ (kE a n) _ rfl,j.size,j.alloc j.size _⟩};{go_enter SE,RJ;go_wp2_with fail;refine(qn _ _).mono ?_;rintro e l ⟨rfl,rfl⟩;go_wp2;go_ret;exact⟨_,rfl,ny _ (ik (a.toList == b.toList)) _ (by simp),by simp,c.alloc (by simp) _⟩};{go_enter SE,RJ;go_wp2;go_ret;exact⟨_,rfl,Jw _ a a _ (by simp),by simp,c.alloc (by simp) _⟩};{go_enter SE,RJ;go_wp2;go_ret;exact⟨_,rfl,Jw _ a b _ (by simp),by simp,c.alloc (by simp) _⟩}
def Ten (w:M)(g:Nat)(v0 v1 v2 v3 v4 v5 v6 v7 v8 v9:ZC):Prop:=g<w.heap.size/\(A w (Q g 0 Y)=T v0/\w.frozen? (Q g 0 Y)=ZA)/\(A w (Q g 1 Y)=T v1/\w.frozen? (Q g 1 Y)=ZA)/\(A w (Q g 2 Y)=T v2/\w.frozen? (Q g 2 Y)=ZA)/\(A w (Q g 3 Y)=T v3/\w.frozen? (Q g 3 Y)=ZA)/\(A w (Q g 4 Y)=T v4/\w.frozen? (Q g 4 Y)=ZA)/\(A w (Q g 5 Y)=T v5/\w.frozen? (Q g 5 Y)=ZA)/\(A w (Q g 6 Y)=T v6/\w.frozen? (Q g 6 Y)=ZA)/\(A w (Q g 7 Y)=T v7/\w.frozen? (Q g 7 Y)=ZA)/\(A w (Q g 8 Y)=T v8/\w.frozen? (Q g 8 Y)=ZA)/\(A w (Q g 9 Y)=T v9/\w.frozen? (Q g 9 Y)=ZA)
section
variable {w w':M}{g:Nat}{v0 v1 v2 v3 v4 v5 v6 v7 v8 v9:ZC}
theorem Ten.of_block (h:Ten w g v0 v1 v2 v3 v4 v5 v6 v7 v8 v9)(hz:w.heap.size<=w'.heap.size)(hb:w'.heap[g]?=w.heap[g]?):Ten w' g v0 v1 v2 v3 v4 v5 v6 v7 v8 v9:=by have c:∀o,A w' (Q g o Y)=A w (Q g o Y):=λo=>cq (a:=(Q g o Y)) hb;have b:∀o,w'.frozen? (Q g o Y)=w.frozen? (Q g o Y):=λo=>JN (a:=(Q g o Y)) hb;unfold Ten at h ⊢;simp only[c,b];exact⟨lj h.1 hz,h.2⟩
theorem Ten.aa (h:Ten w g v0 v1 v2 v3 v4 v5 v6 v7 v8 v9)(hb:Below B w w')(b:g<B):Ten w' g v0 v1 v2 v3 v4 v5 v6 v7 v8 v9:=h.of_block hb.size (hb.block g b)
theorem Ten.grown{row:Option Nat}(h:Ten w g v0 v1 v2 v3 v4 v5 v6 v7 v8 v9)(hb:w.grownBy w' row)(b:T g≠row):Ten w' g v0 v1 v2 v3 v4 v5 v6 v7 v8 v9:=h.of_block hb.size (hb.block g h.1 b)
theorem Ten.al (h:Ten w g v0 v1 v2 v3 v4 v5 v6 v7 v8 v9)(o:Obj):Ten (w.alloc o) g v0 v1 v2 v3 v4 v5 v6 v7 v8 v9:=h.aa ((q9 w).alloc ly o) h.1
theorem Ten.other (h:Ten w g v0 v1 v2 v3 v4 v5 v6 v7 v8 v9)(p:Addr)(u:ZC)(b:p.block≠g):Ten (w.setCell p u) g v0 v1 v2 v3 v4 v5 v6 v7 v8 v9:=h.of_block (by simp) (qh w p u g (λe=>b e.symm))
end
theorem lE (w:M)(v0 v1 v2 v3 v4 v5 v6 v7 v8 v9:ZC)(t:ZI)(g:Nat)(b:g=w.heap.size):Ten (w.alloc (J #[v0,v1,v2,v3,v4,v5,v6,v7,v8,v9] t)) g v0 v1 v2 v3 v4 v5 v6 v7 v8 v9:=by subst b;simp[Ten]
section
variable {w:M}{g:Nat}{v0 v1 v2 v3 v4 v5 v6 v7 v8 v9:ZC}
theorem Ten.sets (h:Ten w g v0 v1 v2 v3 v4 v5 v6 v7 v8 v9)(u:ZC):Ten (w.setCell (Q g 0 Y) u) g u v1 v2 v3 v4 v5 v6 v7 v8 v9/\Ten (w.setCell (Q g 1 Y) u) g v0 u v2 v3 v4 v5 v6 v7 v8 v9/\Ten (w.setCell (Q g 2 Y) u) g v0 v1 u v3 v4 v5 v6 v7 v8 v9/\Ten (w.setCell (Q g 3 Y) u) g v0 v1 v2 u v4 v5 v6 v7 v8 v9/\Ten (w.setCell (Q g 4 Y) u) g v0 v1 v2 v3 u v5 v6 v7 v8 v9/\Ten (w.setCell (Q g 5 Y) u) g v0 v1 v2 v3 v4 u v6 v7 v8 v9/\Ten (w.setCell (Q g 6 Y) u) g v0 v1 v2 v3 v4 v5 u v7 v8 v9/\Ten (w.setCell (Q g 7 Y) u) g v0 v1 v2 v3 v4 v5 v6 u v8 v9/\Ten (w.setCell (Q g 8 Y) u) g v0 v1 v2 v3 v4 v5 v6 v7 u v9/\Ten (w.setCell (Q g 9 Y) u) g v0 v1 v2 v3 v4 v5 v6 v7 v8 u:=by have o:∀i j:Nat,i≠j->(w.setCell (Q g i Y) u).cell? (Q g j Y)=A w (Q g j Y):=λi j hij=>sq _ _ _ _ (by simp);have s:∀i v,A w (Q g i Y)=T v->(w.setCell (Q g i Y) u).cell? (Q g i Y)=T u:=λi v e=>CX _ _ _ (by rw[e];rfl);obtain⟨C,⟨n,ZS⟩,⟨c,F⟩,⟨q,D⟩,⟨r,z⟩,⟨p,G⟩,⟨t,E⟩,⟨m,H⟩,⟨f,x⟩,⟨l,y⟩,b,B⟩:=h;simp[Ten,o,C,s _ _ n,s _ _ c,s _ _ q,s _ _ r,s _ _ p,s _ _ t,s _ _ m,s _ _ f,s _ _ l,s _ _ b,n,c,q,r,p,t,m,f,l,b,ZS,F,D,z,G,E,H,x,y,B]
theorem Ten.set0 (h:Ten w g v0 v1 v2 v3 v4 v5 v6 v7 v8 v9)(u:ZC):Ten (w.setCell (Q g 0 Y) u) g u v1 v2 v3 v4 v5 v6 v7 v8 v9:=(h.sets u).1
theorem Ten.set1 (h:Ten w g v0 v1 v2 v3 v4 v5 v6 v7 v8 v9)(u:ZC):Ten (w.setCell (Q g 1 Y) u) g v0 u v2 v3 v4 v5 v6 v7 v8 v9:=(h.sets u).2.1
theorem Ten.set2 (h:Ten w g v0 v1 v2 v3 v4 v5 v6 v7 v8 v9)(u:ZC):Ten (w.setCell (Q g 2 Y) u) g v0 v1 u v3 v4 v5 v6 v7 v8 v9:=(h.sets u).2.2.1
theorem Ten.set3 (h:Ten w g v0 v1 v2 v3 v4 v5 v6 v7 v8 v9)(u:ZC):Ten (w.setCell (Q g 3 Y) u) g v0 v1 v2 u v4 v5 v6 v7 v8 v9:=(h.sets u).2.2.2.1
theorem Ten.set4 (h:Ten w g v0 v1 v2 v3 v4 v5 v6 v7 v8 v9)(u:ZC):Ten (w.setCell (Q g 4 Y) u) g v0 v1 v2 v3 u v5 v6 v7 v8 v9:=(h.sets u).2.2.2.2.1
theorem Ten.set5 (h:Ten w g v0 v1 v2 v3 v4 v5 v6 v7 v8 v9)(u:ZC):Ten (w.setCell (Q g 5 Y) u) g v0 v1 v2 v3 v4 u v6 v7 v8 v9:=(h.sets u).2.2.2.2.2.1
theorem Ten.set6 (h:Ten w g v0 v1 v2 v3 v4 v5 v6 v7 v8 v9)(u:ZC):Ten (w.setCell (Q g 6 Y) u) g v0 v1 v2 v3 v4 v5 u v7 v8 v9:=(h.sets u).2.2.2.2.2.2.1
theorem Ten.set7 (h:Ten w g v0 v1 v2 v3 v4 v5 v6 v7 v8 v9)(u:ZC):Ten (w.setCell (Q g 7 Y) u) g v0 v1 v2 v3 v4 v5 v6 u v8 v9:=(h.sets u).2.2.2.2.2.2.2.1
theorem Ten.set8 (h:Ten w g v0 v1 v2 v3 v4 v5 v6 v7 v8 v9)(u:ZC):Ten (w.setCell (Q g 8 Y) u) g v0 v1 v2 v3 v4 v5 v6 v7 u v9:=(h.sets u).2.2.2.2.2.2.2.2.1
theorem Ten.set9 (h:Ten w g v0 v1 v2 v3 v4 v5 v6 v7 v8 v9)(u:ZC):Ten (w.setCell (Q g 9 Y) u) g v0 v1 v2 v3 v4 v5 v6 v7 v8 u:=(h.sets u).2.2.2.2.2.2.2.2.2
end
theorem Jy (w:M)(b:Array ZC)(ty:ZI)(R ZJ:Obj)(j:Nat)(v:ZC)(c:b[j]?=T v):(((w.alloc (J b ty)).alloc R).alloc ZJ).cell? (Q w.heap.size j Y)=T v:=by rw[(((dB (w.alloc (J b ty)).heap.size _).alloc ly R).alloc (by simp) ZJ).cell (p:=(Q w.heap.size j Y)) (by simp)];simp[c]
abbrev SO:=(Nat × Nat × Nat × List ByteArray) ⊕ (Int × ByteArray × Nat) ⊕ (Bool × ByteArray × Nat)
abbrev strs (s:List ByteArray):List ZC:=s.reverse.map Value.string
def SoIs (w:M)(base:Nat)(v:ZC):SO->Prop
 |.inl (p,st,l,s)=>∃a cap,v=ei p (Z a s.length cap) st l ZA 0 ⟨#[]⟩ ZA ⟨#[]⟩ ZA/\w.ownsRow base 9 1 (Z a s.length cap) s.length (strs s)
 |.inr (.inl (c,x,st))=>∃(at_:Int) (a:Option Addr) (n cap:Nat) (lk:Int),v=ei at_ (Z a n cap) st lk ZG c x ZA ⟨#[]⟩ ZA
 |.inr (.inr (ask,nm,st))=>∃(at_:Int) (a:Option Addr) (n cap:Nat) (lk:Int),v=ei at_ (Z a n cap) st lk ZA 0 ⟨#[]⟩ ask nm ZG
theorem SoIs.kept{w':M}{b:Nat}{v:ZC}{r:SO}(h:SoIs w base v r)(hb:Below w.heap.size w w')(f:b<=base):SoIs w' b v r:=by
 rcases r with ⟨p,st,l,s⟩|⟨c,x,st⟩|⟨ask,nm,st⟩
 {obtain⟨a,cap,e,g⟩:=h;exact⟨a,cap,e,aB (own_below g hb ly) f⟩};{exact h};{exact h}
theorem Cj{k:Nat}{j:ByteArray}{i:Int}{b:List ZC}(h:w.ownsRow base e 1 (Z (T (Q g 0 Y)) n cap) n b)(c:b[0]?=T (U j))(f:A w (Q k 0 Y)=T (N I i)):k≠g:=by rintro rfl;have:=h.cells (g:=k) rfl 0 _ c;simp[Addr.add] at this;rw[f] at this;simp at this
theorem gO (x:ByteArray)(s:List ByteArray):strs (x::s)=strs s++[U x]:=by simp[strs]
theorem yt:∃b,(strs s++[Value.string x])[0]?=T (U b):=by
 rw[<-gO];simp only[strs,OH,OQ];have h:0<(x::s).reverse.length:=by simp
 exact⟨_,_,gq h,rfl⟩
theorem dZ{b:List ZC}(h:w.ownsRow base e 1 (Z (T (Q g 0 Y)) n cap) n b){k:Nat}(c:k≠g)(u:ZC)(j:Nat):(w.setCell (Q k j Y) u).ownsRow base e 1 (Z (T (Q g 0 Y)) n cap) n b :=
 VQ h (by simp[Value.ownBlock];exact λe=>c e.symm) u
theorem Fi{c:List ZC}(h:w.ownsRow base e 1 (Z (T (Q g 0 Y)) n cap) n c){k:Nat}(b:k≠g)(v0 v1 v2 v3 v4 v5 v6 v7 v8 v9:ZC):World.ownsRow ((((((((((w.setCell (Q k 0 Y) v0).setCell (Q k 1 Y) v1).setCell (Q k 2 Y) v2).setCell (Q k 3 Y) v3).setCell (Q k 4 Y) v4).setCell (Q k 5 Y) v5).setCell (Q k 6 Y) v6).setCell (Q k 7 Y) v7).setCell (Q k 8 Y) v8).setCell (Q k 9 Y) v9) base e 1 (Z (T (Q g 0 Y)) n cap) n c :=
 dZ (dZ (dZ (dZ (dZ (dZ (dZ (dZ (dZ (dZ h b v0 0) b v1 1) b v2 2) b v3 3) b v4 4) b v5 5) b v6 6) b v7 7) b v8 8) b v9 9
def kI (y:Nat->aI)(n:Nat)(a:Bool)(nm:ByteArray)(s:List ByteArray)(p st l:Nat):SO :=
 if n<=l then .inr (.inr (a,nm,st)) else if a=ZA then .inl (p,st,(l+1),(ik (y l).has::s)) else if (y l).has=ZA then .inr (.inl (4,nm,st))
 else if (y l).E=0 then .inl (p,st,(l+1),((y l).B::s)) else .inr (.inl (5,nm,st))
def jY (y:Nat->aI)(n op:Nat)(pl nm:ByteArray)(s:List ByteArray)(p st l:Nat):SO :=
 if aw nm=ZA then .inr (.inl (2,pl,st)) else if l=200 then .inr (.inl (3,⟨#[]⟩,st)) else kI y n ((op:Int) == 12) nm s p st l
theorem Ck{y:Nat->aI}{pl nm:ByteArray}{p st l:Nat}{b:SO}(h:b=jY y n op pl nm s p st l)(f:op=12∨op=13):(aw nm=ZA/\b=.inr (.inl (2,pl,st)))∨(aw nm=ZG/\((l:Int) == 200)=ZG/\b=.inr (.inl (3,⟨#[]⟩,st))) ∨
  (aw nm=ZG/\((l:Int) == 200)=ZA/\((n<=l/\b=.inr (.inr (((op:Int) == 12),nm,st)))∨(l<n/\((op=13/\b=.inl (p,st,(l+1),(ik (y l).has::s)))∨(op=12/\(((y l).has=ZA/\b=.inr (.inl (4,nm,st)))∨((y l).has=ZG/\(((y l).E=0/\b=.inl (p,st,(l+1),((y l).B::s)))∨(((y l).E == 0)=ZA/\b=.inr (.inl (5,nm,st))))))))))):=by
 unfold jY kI at h;by_cases h1:aw nm=ZA;{rw[p6 h1] at h;exact .inl ⟨h1,h⟩};rw[gM h1] at h;have h1:aw nm=ZG:=by simpa using h1
 by_cases h2:l=200;{rw[p6 h2] at h;exact .inr (.inl ⟨h1,by simp;omega,h⟩)};rw[gM h2] at h;refine .inr (.inr ⟨h1,by simp;omega,?_⟩);by_cases h3:n<=l;{rw[p6 h3] at h;exact .inl ⟨h3,h⟩};rw[gM h3] at h;refine .inr ⟨by omega,?_⟩;rcases f with rfl|rfl;{rw[gM (by simp)] at h;by_cases h4:(y l).has=ZA;{rw[p6 h4] at h;exact .inr ⟨rfl,.inl ⟨h4,h⟩⟩};rw[gM h4] at h;by_cases c:(y l).E=0;{rw[p6 c] at h;exact .inr ⟨rfl,.inr ⟨by simpa using h4,.inl ⟨c,h⟩⟩⟩};rw[gM c] at h;exact .inr ⟨rfl,.inr ⟨by simpa using h4,.inr ⟨by simpa using c,h⟩⟩⟩};{rw[p6 (by simp)] at h;exact .inl ⟨rfl,h⟩}
structure LkS (w:M)(op:Int)(base:Nat)(a:Option Addr)(cap:Nat)(s:List ByteArray)(p st lk:Int)(V:M):Prop where
 run:Ten V (w.heap.size+1) (N I p) (Z a s.length cap) (N I st) (N I lk) (ZD ZA) (N I 0) (U ⟨#[]⟩) (ZD ZA) (U ⟨#[]⟩) (ZD ZA)
 zer:Ten V (w.heap.size+1+1) (N I 0) (Z Y 0 0) (N I 0) (N I 0) (ZD ZA) (N I 0) (U ⟨#[]⟩) (ZD ZA) (U ⟨#[]⟩) (ZD ZA)
 bl:Below w.heap.size w V
 i:V.ownsRow base 9 1 (Z a s.length cap) s.length (strs s)
 ne:∀k,w.heap.size<=k->Value.ownBlock (Z a s.length cap)≠T k
 arg:A V (Q w.heap.size 0 Y)=T (N I op)
section
variable {w V ZL:M}{base cap:Nat}{a:Option Addr}{s:List ByteArray}{op p st lk:Int}
theorem LkS.aa (h:LkS w op base a cap s p st lk V)(b:Below V.heap.size V ZL):LkS w op base a cap s p st lk ZL :=
 ⟨h.run.aa b h.run.1,h.zer.aa b h.zer.1,h.bl.trans (b.mono h.bl.size),own_below h.i b ly,h.ne,(b.cell (p:=(Q w.heap.size 0 Y)) (by have:=h.run.1;show w.heap.size<_;omega)).trans h.arg⟩
theorem LkS.next (h:LkS w op base a cap s p st lk V)(q:Int):LkS w op base a cap s p st q (V.setCell (Q (w.heap.size+1) 3 Y) (N I q)) :=
 ⟨h.run.set3 _,h.zer.other _ _ (by simp),h.bl.setCell (p:=(Q (w.heap.size+1) 3 Y)) (by simp) _,VQ h.i (a:=(Q (w.heap.size+1) 3 Y)) (h.ne _ (by simp)) _,h.ne,(sq _ _ _ _ (by simp)).trans h.arg⟩
theorem LkS.al (h:LkS w op base a cap s p st lk V)(o:Obj):LkS w op base a cap s p st lk (V.alloc o):=h.aa (br.alloc ly o)
theorem LkS.drew (h:LkS w op base a cap s p st lk V):LkS w op base a cap s p st lk V.drew:=h.aa br.drew
theorem LkS.grown (h:LkS w op base a cap s p st lk V)(b:V.grownBy ZL (Value.slice a s.length cap).ownBlock)(hb:base<=w.heap.size):Ten ZL (w.heap.size+1) (N I p) (Z a s.length cap) (N I st) (N I lk) (ZD ZA) (N I 0) (U ⟨#[]⟩) (ZD ZA) (U ⟨#[]⟩) (ZD ZA)/\Ten ZL (w.heap.size+1+1) (N I 0) (Z Y 0 0) (N I 0) (N I 0) (ZD ZA) (N I 0) (U ⟨#[]⟩) (ZD ZA) (U ⟨#[]⟩) (ZD ZA)/\Below base w ZL :=
 ⟨h.run.grown b λe=>h.ne _ (by omega) e.symm,h.zer.grown b λe=>h.ne _ (by omega) e.symm,bg (h.bl.mono hb) b (p7 hb h.bl.size) λk e=>(h.i.lt k e).1⟩
end
theorem zZ (op:Nat)(t:ByteArray)(k:Int)(p st l:Nat)(a:Option Addr)(cap:Nat)(s:List ByteArray)(nm pl:ByteArray)(b2 o2 n aq base:Nat)(y:Nat->aI)(w:M)
  (hY:RowReply w b2 o2 n y) (O:w.ownsRow base 9 1 (Z a s.length cap) s.length (strs s)) (hb:base<=w.heap.size) (fd:op=12∨op=13) (hl:l<=200) (hs:s.length<=50) :
  Calls Tryz.prog 213 #[ZH #[N I op,U t,N I k],ei p (Z a s.length cap) st l ZA 0 ⟨#[]⟩ ZA ⟨#[]⟩ ZA,U nm,U pl,Z (T (Q b2 o2 Y)) n aq] w λe w'=>∃v,e=ZF v/\SoIs w' base v (jY y n op pl nm s p st l)/\Below base w w':=by
 obtain⟨so,ZS⟩:∃so,so=jY y n op pl nm s p st l:=⟨_,rfl⟩
 rw[<-ZS];have HQ:=ae (Ck ZS fd);have HY:=ae hY;have ZN:=ae ((((q9 w).alloc ly (J #[N I op,U t,N I k] 151)).alloc (by simp) (J #[N I p,Z a s.length cap,N I st,N I l,ZD ZA,N I 0,U ⟨#[]⟩,ZD ZA,U ⟨#[]⟩,ZD ZA] 226)).alloc (by simp<;>omega) (J #[N I 0,Z Y 0 0,N I 0,N I 0,ZD ZA,N I 0,U ⟨#[]⟩,ZD ZA,U ⟨#[]⟩,ZD ZA] 226));have C:=ae (LkS.mk (p:=p) (st:=st) (lk:=l) ((lE (w.alloc (J #[N I op,U t,N I k] 151)) _ _ _ _ _ _ _ _ _ _ 226 (w.heap.size+1) (by simp)).al _) (lE _ _ _ _ _ _ _ _ _ _ _ 226 (w.heap.size+1+1) (by simp)) ZN.out (own_below O ZN ly) (λk hk e=>by have:=(O.lt k e).2;omega) (Jy w #[N I op,U t,N I k] 151 (J #[N I p,Z a s.length cap,N I st,N I l,ZD ZA,N I 0,U ⟨#[]⟩,ZD ZA,U ⟨#[]⟩,ZD ZA] 226) (J #[N I 0,Z Y 0 0,N I 0,N I 0,ZD ZA,N I 0,U ⟨#[]⟩,ZD ZA,U ⟨#[]⟩,ZD ZA] 226) 0 (N I op) rfl));clear ZS hY O ZN;go_enter func213,ntmps213;go_wp2_with fail;generalize World.alloc (World.alloc (World.alloc w _) _) _=W0 at C ⊢;refine(dc nm _).mono ?_;rintro e f ⟨rfl,ZP⟩;replace C:=ae (C.aa ZP);have hz1:=C.zer.1;have i0:=C.arg;clear ZP;have R1:=ae C.run;obtain⟨x,⟨c0,f0⟩,⟨c1,f1⟩,⟨c2,X⟩,⟨c3,L⟩,⟨c4,S⟩,⟨c5,f5⟩,⟨ZJ,P⟩,⟨ZK,f7⟩,⟨R,K⟩,c9,f9⟩:=R1.out;rcases HQ.out with ⟨h1,rfl⟩|⟨h1,h2,rfl⟩|⟨h1,h2,⟨h3,rfl⟩|⟨h3,h⟩⟩
 all_goals
  rw[h1];clear HQ
 case' inr.inr.inl =>
  have ZE:=ae (((C.zer.other (Q (w.heap.size+1) 9 Y) (ZD ZG) (by simp)).other (Q (w.heap.size+1) 7 Y) (ZD ((op:Int) == 12)) (by simp)).other (Q (w.heap.size+1) 8 Y) (U nm) (by simp));have B2:=ae (((C.bl.setCell (p:=(Q (w.heap.size+1) 9 Y)) (by simp) (ZD ZG)).setCell (p:=(Q (w.heap.size+1) 7 Y)) (by simp) (ZD ((op:Int) == 12))).setCell (p:=(Q (w.heap.size+1) 8 Y)) (by simp) (U nm));obtain⟨u,⟨z0,V⟩,⟨z1,ZL⟩,⟨z2,y2⟩,⟨z3,y3⟩,⟨i,y4⟩,⟨q,y5⟩,⟨m,ZO⟩,⟨g,ZM⟩,⟨o,y8⟩,j,ZR⟩:=ZE.out;have hw:(n:Int)<=l:=by omega
  go_wp2;exact bp (v:=ei p (Z a s.length cap) st l ZA 0 ⟨#[]⟩ ((op:Int) == 12) nm ZG) (by simp[results,TT,go_sem,z0,z1,z2,z3,i,q,m,g,o,j]) rfl ⟨_,rfl,⟨_,_,_,_,_,rfl⟩,dY (B2.mono hb) (by omega) _ _ _ _ _ _ _ _ _ _⟩
 case' inr.inr.inr =>
  obtain⟨d0,d1,d2⟩:=(HY.aa C.bl ly).2 l h3;have hln:(l:Int)<n:=by omega
  have hz0:w.heap.size<f.heap.size:=by omega
  have hz01:w.heap.size+1<f.heap.size:=by omega
  replace C:=ae ((C.next ((l:Int)+1)).al (J #[ZD (y l).has,N I (y l).E,U (y l).B] 166));have g0:=jk (f.setCell (Q (w.heap.size+1) 3 Y) (N I ((l:Int)+1))) #[ZD (y l).has,N I (y l).E,U (y l).B] 166 f.heap.size 0 (ZD (y l).has) (by simp) rfl;have g1:=jk (f.setCell (Q (w.heap.size+1) 3 Y) (N I ((l:Int)+1))) #[ZD (y l).has,N I (y l).E,U (y l).B] 166 f.heap.size 1 (N I (y l).E) (by simp) rfl;have g2:=jk (f.setCell (Q (w.heap.size+1) 3 Y) (N I ((l:Int)+1))) #[ZD (y l).has,N I (y l).E,U (y l).B] 166 f.heap.size 2 (U (y l).B) (by simp) rfl;have bt:f.heap.size<((f.setCell (Q (w.heap.size+1) 3 Y) (N I ((l:Int)+1))).alloc (J #[ZD (y l).has,N I (y l).E,U (y l).B] 166)).heap.size:=by simp
  go_upto_region 12 with fail;clear x c0 f0 c1 f1 c2 X c3 L c4 S c5 f5 ZJ P ZK f7 R K c9 f9 R1 d0 d1 d2 i0;generalize World.alloc (World.setCell f _ _) _=W at C g0 g1 g2 bt ⊢;have i0:=C.arg;have hbW:base<=W.heap.size:=p7 hb C.bl.size;obtain⟨H,hi,B,F,E⟩:=OB lK;obtain⟨x,⟨c0,f0⟩,⟨c1,f1⟩,⟨c2,X⟩,⟨c3,L⟩,⟨c4,S⟩,⟨c5,f5⟩,⟨ZJ,P⟩,⟨ZK,f7⟩,⟨R,K⟩,c9,f9⟩:=C.run;rcases h with ⟨rfl,rfl⟩|⟨rfl,⟨h4,rfl⟩|⟨h4,⟨h5,rfl⟩|⟨h5,rfl⟩⟩⟩
  case' inr.inl|inr.inr.inr=>rw[h4] at g0
  case' inr.inr.inl =>rw[h4] at g0;rw[h5] at g1;go_wp2_with (at_builtin;refine BS _ rfl (.tmp 70) (.tmp 73) 30 rfl base 9 H (U ⟨#[]⟩) 1 16 IB hi B F E rfl (by decide) (Z a s.length cap) s.length (strs s) (by simp[Act.eval]) (by first|exact C.i.alloc _|exact C.i.drew.alloc _|exact C.i.drew.drew.alloc _) (Q W.heap.size 0 Y) 1 1 [U (y l).B] (by simp[Act.eval]) rfl (by first|exact cu W _ _|exact cu W.drew _ _|exact cu W.drew.drew _ _) (by simp[Value.oneCell']) (by unfold maxLen;omega) (by omega) (by simp<;>omega) ?_;intro v' w2 b c r;obtain⟨gg,z,rfl⟩:=dr b (by omega);have G:=ae (LkS.grown (by first|exact C.al _|exact C.drew.al _|exact C.drew.drew.al _) c hb);obtain⟨la,⟨k0,m0⟩,⟨k1,m1⟩,⟨k2,m2⟩,⟨k3,m3⟩,⟨k4,m4⟩,⟨k5,m5⟩,⟨k6,m6⟩,⟨k7,m7⟩,⟨k8,m8⟩,k9,m9⟩:=G.1;obtain⟨u,⟨z0,V⟩,⟨z1,ZL⟩,⟨z2,y2⟩,⟨z3,y3⟩,⟨i,y4⟩,⟨q,y5⟩,⟨m,ZO⟩,⟨g,ZM⟩,⟨o,y8⟩,j,ZR⟩:=G.2.1)
  case' inl =>go_wp2_with fail;go_region_law (first|(refine eN rfl (.tmp 49) (.tmp 53) 30 rfl base 9 H (U ⟨#[]⟩) 1 16 IB hi B F E rfl (by decide) (Z a s.length cap) s.length (strs s) (by simp[Act.eval]) (by first|exact C.i.alloc _|exact C.i.drew.alloc _|exact C.i.drew.drew.alloc _) (Q W.heap.size 0 Y) 1 1 [U (ik (y l).has)] (by simp[Act.eval]) rfl (by first|exact cu W _ _|exact cu W.drew _ _|exact cu W.drew.drew _ _) (by simp[Value.oneCell']) (by unfold maxLen;omega) (by omega) (by simp<;>omega) ?_;intro v' w2 b c r;obtain⟨gg,z,rfl⟩:=dr b (by omega);have G:=ae (LkS.grown (by first|exact C.al _|exact C.drew.al _|exact C.drew.drew.al _) c hb);obtain⟨la,⟨k0,m0⟩,⟨k1,m1⟩,⟨k2,m2⟩,⟨k3,m3⟩,⟨k4,m4⟩,⟨k5,m5⟩,⟨k6,m6⟩,⟨k7,m7⟩,⟨k8,m8⟩,k9,m9⟩:=G.1;obtain⟨u,⟨z0,V⟩,⟨z1,ZL⟩,⟨z2,y2⟩,⟨z3,y3⟩,⟨i,y4⟩,⟨q,y5⟩,⟨m,ZO⟩,⟨g,ZM⟩,⟨o,y8⟩,j,ZR⟩:=G.2.1)|(go_simp;go_at_call 191;refine(qn _ _).mono ?_;rintro e w9 ⟨rfl,mv⟩;subst mv))
  all_goals (try (have D:=Cj b (yt (s:=s)).choose_spec G.1.2.1.1;have ld:=Cj b (yt (s:=s)).choose_spec G.2.1.2.1.1;have dg:=ae (dZ b D (Z (T (Q gg 0 Y)) (s.length+1) z) 1);have B4:=ae (G.2.2.setCell (p:=(Q (w.heap.size+1) 1 Y)) (by simp;omega) (Z (T (Q gg 0 Y)) (s.length+1) z));clear b c r D;(try go_wp2);refine bp (v:=ei p (Z (T (Q gg 0 Y)) (s.length+1) z) st ((l:Int)+1) ZA 0 ⟨#[]⟩ ZA ⟨#[]⟩ ZA) (by simp[results,TT,go_sem,z0,z1,z2,z3,i,q,m,g,o,j]) rfl ⟨_,rfl,⟨T (Q gg 0 Y),z,by simp,?_⟩,dY B4.out (by omega) _ _ _ _ _ _ _ _ _ _⟩;rw[gO];exact Fi dg ld _ _ _ _ _ _ _ _ _ _))
 all_goals
  go_wp2_with fail;refine(fM _ _ _ _ _ _ _ _ _ _ _ _ _ _ _).mono ?_;rintro e w2 ⟨rfl,ZQ⟩;replace C:=ae (C.aa ZQ);clear ZQ x c0 f0 c1 f1 c2 X c3 L c4 S c5 f5 ZJ P ZK f7 R K c9 f9;obtain⟨u,⟨z0,V⟩,⟨z1,ZL⟩,⟨z2,y2⟩,⟨z3,y3⟩,⟨i,y4⟩,⟨q,y5⟩,⟨m,ZO⟩,⟨g,ZM⟩,⟨o,y8⟩,j,ZR⟩:=C.zer;go_wp2;first
   |exact bp (v:=ei p (Z a s.length cap) st l ZG 3 ⟨#[]⟩ ZA ⟨#[]⟩ ZA) (by simp[results,TT,go_sem,z0,z1,z2,z3,i,q,m,g,o,j]) rfl ⟨_,rfl,⟨_,_,_,_,_,rfl⟩,dY (C.bl.mono hb) (by omega) _ _ _ _ _ _ _ _ _ _⟩
   |exact bp (v:=ei p (Z a s.length cap) st l ZG 2 pl ZA ⟨#[]⟩ ZA) (by simp[results,TT,go_sem,z0,z1,z2,z3,i,q,m,g,o,j]) rfl ⟨_,rfl,⟨_,_,_,_,_,rfl⟩,dY (C.bl.mono hb) (by omega) _ _ _ _ _ _ _ _ _ _⟩
   |exact bp (v:=ei p (Z a s.length cap) st ((l:Int)+1) ZG 4 nm ZA ⟨#[]⟩ ZA) (by simp[results,TT,go_sem,z0,z1,z2,z3,i,q,m,g,o,j]) rfl ⟨_,rfl,⟨_,_,_,_,_,rfl⟩,dY (C.bl.mono hb) (by omega) _ _ _ _ _ _ _ _ _ _⟩
   |exact bp (v:=ei p (Z a s.length cap) st ((l:Int)+1) ZG 5 nm ZA ⟨#[]⟩ ZA) (by simp[results,TT,go_sem,z0,z1,z2,z3,i,q,m,g,o,j]) rfl ⟨_,rfl,⟨_,_,_,_,_,rfl⟩,dY (C.bl.mono hb) (by omega) _ _ _ _ _ _ _ _ _ _⟩
theorem add0 (g j:Nat):((Q g 0 Y):Addr).add j=(Q g j Y):=by unfold Addr.add;split<;>simp_all
theorem Ia (h:w.ownsRow base e 1 (Z (T (Q g 0 Y)) (r.length+1) cap) (r.length+1) (strs (x::r))):A w (Q g r.length Y)=T (U x):=by have:=h.cells (g:=g) rfl r.length (U x) (by rw[gO,IX (by simp)];simp);rwa[add0] at this
theorem Ib{z:ByteArray}(h:w.ownsRow base e 1 (Z (T (Q g 0 Y)) (r.length+2) cap) (r.length+2) (strs (x::z::r))):A w (Q g (r.length+1) Y)=T (U x)/\A w (Q g r.length Y)=T (U z):=by have h1:=h.cells (g:=g) rfl (r.length+1) (U x) (by rw[gO,IX (by simp)];simp);have h2:=h.cells (g:=g) rfl r.length (U z) (by rw[gO,OP (by simp),gO,IX (by simp)];simp);rw[add0] at h1 h2;exact⟨h1,h2⟩
theorem Ic (h:w.ownsRow base e 1 (Z (T (Q g 0 Y)) n cap) n i):n<=cap:=by
 rcases h.2 with ⟨b,_⟩|⟨g,c,cur,f,_,_,hn,_⟩
 {simp at b};{simp at f;omega}
theorem Ie{xs:List ZC}(h:w.ownsRow base e 1 (Z (T (Q g 0 Y)) n cap) n (strs r++xs)):∀j u,(strs r)[j]?=T u->w.cell? (((Q g 0 Y):Addr).add j)=T u:=λj u b =>h.cells (g:=g) rfl j u (by rw[OP (by obtain⟨c,_⟩:=n8.1 b;exact c)];exact b)
theorem sL{v:ZC}(h:w.ownsRow base e 1 v n i)(b:v≠.slice Y 0 0):∃g cap,v=Z (T (Q g 0 Y)) n cap/\base<=g:=by
 rcases h.2 with ⟨c,_⟩|⟨g,cap,cur,b,f,_⟩
 {exact absurd c b};{exact⟨g,cap,b,f⟩}
theorem Fj (r:List ByteArray):∀u∈strs r,u.oneCell'=ZG:=by intro u b;obtain⟨x,_,rfl⟩:=QX.1 b;rfl
theorem SoIs.av{v:ZC}{r:SO}(h:SoIs w base v r):∃(at_:Int) (a:Option Addr) (n cap:Nat) (st lk:Int) (f:Bool) (c:Int) (x:ByteArray) (ask:Bool) (nm:ByteArray) (b:Bool),v=ei at_ (Z a n cap) st lk f c x ask nm b:=by
 rcases r with ⟨p,st,l,s⟩|⟨c,x,st⟩|⟨ask,nm,st⟩
 {obtain⟨a,cap,e,_⟩:=h;exact⟨_,_,_,_,_,_,_,_,_,_,_,_,e⟩};{obtain⟨at_,a,n,cap,lk,e⟩:=h;exact⟨_,_,_,_,_,_,_,_,_,_,_,_,e⟩};{obtain⟨at_,a,n,cap,lk,e⟩:=h;exact⟨_,_,_,_,_,_,_,_,_,_,_,_,e⟩}
theorem SoIs.set{v:ZC}{r:SO}(h:SoIs w base v r){k:Nat}(b:k<base)(j:Nat)(u:ZC):SoIs (w.setCell (Q k j Y) u) base v r:=by
 rcases r with ⟨p,st,l,s⟩|⟨c,x,st⟩|⟨ask,nm,st⟩
 {obtain⟨a,cap,e,f⟩:=h;exact⟨a,cap,e,VR f (a:=(Q k j Y)) b u⟩};{exact h};{exact h}
theorem SoIs.mono{base':Nat}{v:ZC}{r:SO}(h:SoIs w base v r)(hb:base'<=base):SoIs w base' v r:=h.kept br hb
theorem Cl{v:ZC}{r:SO}(h:SoIs w base v r){k:Nat}(b:k<base)(v0 v1 v2 v3 v4 v5 v6 v7 v8 v9:ZC):SoIs ((((((((((w.setCell (Q k 0 Y) v0).setCell (Q k 1 Y) v1).setCell (Q k 2 Y) v2).setCell (Q k 3 Y) v3).setCell (Q k 4 Y) v4).setCell (Q k 5 Y) v5).setCell (Q k 6 Y) v6).setCell (Q k 7 Y) v7).setCell (Q k 8 Y) v8).setCell (Q k 9 Y) v9) base v r :=
 (((((((((h.set b 0 v0).set b 1 v1).set b 2 v2).set b 3 v3).set b 4 v4).set b 5 v5).set b 6 v6).set b 7 v7).set b 8 v8).set b 9 v9
theorem Aa (op n:Nat)(t a b:ByteArray)(h1:1<=op)(h11:op<=11):(bT op n t a b).length=cB op:=by rcases(show op=1∨op=2∨op=3∨op=4∨op=5∨op=6∨op=7∨op=8∨op=9∨op=10∨op=11 by omega) with rfl|rfl|rfl|rfl|rfl|rfl|rfl|rfl|rfl|rfl|rfl;all_goals rfl
theorem Ig (h1:1<=op)(h11:op<=11)(h:j<cB op):op<=8:=by rcases(show op=1∨op=2∨op=3∨op=4∨op=5∨op=6∨op=7∨op=8∨op=9∨op=10∨op=11 by omega) with rfl|rfl|rfl|rfl|rfl|rfl|rfl|rfl|rfl|rfl|rfl;all_goals simp[cB] at h ⊢
theorem Fl (op:Nat):cB op<=2:=by
 unfold cB;split;{omega};{split<;>omega}
def gP (b:List ByteArray)(pl:ByteArray)(r:List ByteArray)(p st l:Nat):SO:=if b.all (λx=>decide (x.size<=2000)) then .inl (p,st,l,(b.reverse++r)) else .inr (.inl (2,pl,st))
theorem Cm (h:j<b.length):(b.take (j+1)).map Value.string=(b.take j).map Value.string++[U (b.getD j ⟨#[]⟩)]:=by rw[T1,DN,gq h];simp[h]
theorem Fo (b r:List ByteArray):strs (b.reverse++r)=strs r++b.map Value.string:=by simp[strs]
theorem Ih (h:j<b.length)(c:¬ ((b.getD j ⟨#[]⟩).size:Int)<=2000):b.all (λx=>decide (x.size<=2000))=ZA:=by simp only[List.all_eq_false];exact⟨b[j],gz h,by simp[h] at c ⊢;omega⟩
theorem Fp (h:∀i,i<b.length->(b.getD i ⟨#[]⟩).size<=2000):b.all (λx=>decide (x.size<=2000))=ZG:=by simp only[List.all_eq_true,z8];intro x c;obtain⟨i,hi,rfl⟩:=List.mem_iff_getElem.1 c;have:=h i hi;simpa[hi] using this
def iK (y:Nat->aI)(n place st looks:Nat):Res->SO
 |.inr (.inl (c,x))=>.inr (.inl (c,x,st))
 |.inl (s',p)=>.inl (p,st,looks,s')
 |.inr (.inr (a,nm,s'))=>kI y n a nm s' (place+1) st looks
def gi (f:Nat->Ins)(cnt:Nat)(y:Nat->aI)(n place steps looks:Nat)(s:List ByteArray):SO:=iK y n place (fw cnt place steps) looks (dt f cnt place steps looks s)
theorem Cn{a:Option Addr}(h:w.ownsRow base e 1 (Z a n cap) n i):(a=Y/\n=0/\cap=0)∨∃g,a=T (Q g 0 Y):=by
 rcases h.2 with ⟨b,_⟩|⟨g,c,cur,f,_⟩
 {simp only[OJ] at b;exact .inl b};{simp only[OJ] at f;exact .inr ⟨g,f.1⟩}
theorem Ab (op k:Nat)(t a b:ByteArray)(h1:1<=op)(h11:op<=11)(h2:op≠2)(f:t.size<=2000)(c:a.size<=2000)(hb:b.size<=2000):(bT op k t a b).all (λx=>decide (x.size<=2000))=ZG:=by
 rcases(show op=1∨op=3∨op=4∨op=5∨op=6∨op=7∨op=8∨op=9∨op=10∨op=11 by omega) with rfl|rfl|rfl|rfl|rfl|rfl|rfl|rfl|rfl|rfl;{simp[bT,f]};{simp only[bT,V8,WV,UU,z8];split;{simp;omega};{exact c}};{simp only[bT,V8,WV,UU,z8];split;{simp;omega};{decide}};{simp only[bT,V8,WV,UU,z8];exact p7 (qu _ _) c};{simp only[bT,V8,WV,UU,z8];exact my _};{simp[bT,c]};{simp[bT,c,hb]};{rfl};{rfl};{rfl}
theorem Ac (op k:Nat)(t a b pl:ByteArray)(r:List ByteArray)(p st l:Nat)(h1:1<=op)(c:op<=11)(h2:op≠2)(f:t.size<=2000)(g:a.size<=2000)(hb:b.size<=2000):gP (bT op k t a b) pl r p st l=.inl (p,st,l,((bT op k t a b).reverse++r)):=by unfold gP;rw[Ab op k t a b h1 c h2 f g hb];rfl
theorem Jz (k:Nat)(t x z:ByteArray)(r:List ByteArray)(y:Nat->aI)(n place st looks:Nat):iK y n place st looks (dQ 2 k t place looks (x::z::r))=gP (bT 2 k t x z) (fh place) r (place+1) st looks:=by
 unfold gP;simp only[dQ,bT,V8,WV,UU,IH];by_cases h:z.size+x.size<=2000;{rw[p6 h,p6 (by simpa using h)];rfl};{rw[gM h,gM (by simpa using h)];rfl}
theorem yu (op:Nat)(y:Nat->aI)(n place st looks:Nat)(x:ByteArray)(r:List ByteArray)(b:Bool)(hb:((op:Int) == 12)=b):iK y n place st looks (kF b x r place looks)=jY y n op (fh place) x r (place+1) st looks:=by
 unfold kF jY;rw[hb];by_cases h1:aw x=ZA;{rw[p6 h1,p6 h1];rfl};{rw[gM h1,gM h1];by_cases h2:looks=200;{rw[p6 h2,p6 h2];rfl};{rw[gM h2,gM h2];rfl}}
theorem Fq (l r:List ByteArray):strs (l++r)=strs r++strs l:=by simp[strs]
def mz (op:Nat)(s:List ByteArray):ByteArray:=if 0<ba op then s.getD 0 ⟨#[]⟩ else ⟨#[]⟩
def ry (op:Nat)(s:List ByteArray):ByteArray:=if 1<ba op then s.getD 1 ⟨#[]⟩ else ⟨#[]⟩
def nA (op k:Nat)(a:ByteArray)(place:Nat):Nat:=if op=10 then k else if op=11/\(a.toList=[]∨(a.toList == [48])=ZG) then k else place+1
theorem KH{k place:Nat}{ZS:ByteArray}(h:op=10∨op=11/\ZS.toList.isEmpty=ZG∨op=11/\(ZS.toList == [48])=ZG):nA op k ZS place=k:=by
 unfold nA;rcases h with rfl|⟨rfl,h⟩|⟨rfl,h⟩
 {rfl};{rw[gM (by omega),p6 ⟨rfl,.inl (List.isEmpty_iff.1 h)⟩]};{rw[gM (by omega),p6 ⟨rfl,.inr h⟩]}
theorem Ii (op:Nat)(ZS:ByteArray)(h:op<=15):op=15∨op=14∨op=12∨op=13∨op=10∨(op=11/\ZS.toList.isEmpty=ZG)∨(op=11/\ZS.toList.isEmpty=ZA/\(ZS.toList == [48])=ZG)∨(op=11/\ZS.toList.isEmpty=ZA/\(ZS.toList == [48])=ZA)∨op<=9:=by
 by_cases e:op=11;{subst e;cases ZS.toList.isEmpty<;>cases (ZS.toList == [48])<;>simp};{omega}
theorem vm (h:∀x∈s,x.size<=2000)(op:Nat):(mz op s).size<=2000/\(ry op s).size<=2000:=by
 have g:∀j,(s.getD j ⟨#[]⟩).size<=2000:=λj=>by
  rw[IA];rcases hj:s[j]? with _|x;{exact E4 _};{exact h x (LD hj)}
 refine⟨?_,?_⟩;{unfold mz;split;{exact g 0};{exact E4 _}};{unfold ry;split;{exact g 1};{exact E4 _}}
theorem Fs (op k:Nat)(t:ByteArray)(s:List ByteArray)(y:Nat->aI)(n place st looks:Nat)(h1:1<=op)(c:op<=11)(hb:ba op<=s.length)(g:t.size<=2000)(b:∀x∈s,x.size<=2000):iK y n place st looks (dQ op k t place looks s)=gP (bT op k t (mz op s) (ry op s)) (fh place) (s.drop (ba op)) (nA op k (mz op s) place) st looks:=by
 have f:=(vm b op).1;have h:=(vm b op).2;by_cases h2:op=2
 ·subst h2;match s,hb with
  |x::z::r,_=>exact Jz k t x z r y n place st looks
 ·rw[Ac op k t _ _ _ _ _ _ _ h1 c h2 g f h];rcases(show op=1∨op=3∨op=4∨op=5∨op=6∨op=7∨op=8∨op=9∨op=10∨op=11 by omega) with rfl|rfl|rfl|rfl|rfl|rfl|rfl|rfl|rfl|rfl;{rfl};iterate 3
   ·match s,hb with
    |x::r,_=>rfl
  ·match s,hb with
   |x::z::r,_=>rfl
  ·match s,hb with
   |x::r,_=>rfl
  ·match s,hb with
   |x::z::r,_=>rfl
  ·match s,hb with
   |x::r,_=>rfl
  {rfl}
  ·match s,hb with
   |x::r,_ =>show iK y n place st looks (dQ 11 k t place looks (x::r))=.inl (nA 11 k x place,st,looks,r);simp only[dQ,iK,nA,show((11:Nat)=10)=False by simp,WW,TM]
theorem Ij (op k:Nat)(t:ByteArray)(s:List ByteArray)(y:Nat->aI)(n place st looks:Nat)(h:op=12∨op=13)(hb:ba op<=s.length):iK y n place st looks (dQ op k t place looks s)=jY y n op (fh place) (mz op s) (s.drop (ba op)) (place+1) st looks:=by
 rcases h with rfl|rfl
 ·match s,hb with
  |x::r,_=>exact yu 12 y n place st looks x r ZG rfl
 ·match s,hb with
  |x::r,_=>exact yu 13 y n place st looks x r ZA rfl
theorem yv (op k:Nat)(t:ByteArray)(s:List ByteArray)(y:Nat->aI)(n place st looks:Nat)(h:op=14∨op=15)(hb:ba op<=s.length):iK y n place st looks (dQ op k t place looks s)=.inr (.inl (15 - (op:Int),mz op s,st)):=by
 rcases h with rfl|rfl
 ·match s,hb with
  |x::r,_=>rfl
 ·match s,hb with
  |x::r,_=>rfl
