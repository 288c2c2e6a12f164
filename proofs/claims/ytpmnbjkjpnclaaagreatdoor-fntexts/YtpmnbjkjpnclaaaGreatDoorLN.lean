import Derived.Test.YtpmnbjkjpnclaaaGreatDoorMW
import Derived.Test.YtpmnbjkjpnclaaaGreatDoorLL
set_option maxHeartbeats 1000000
open Go renaming Addr.mk->N,Value.slice->Y,Value.string->U,Value.int->Q,Value.agg->ZG,Obj.cells->J,IntKind.i64->I,World->M,Value->ZB,TypeId->ZH,Ending.returned->ZD,World.heap->A,World.alloc->B
open Option renaming none->Z,some->T
open Bool renaming false->ZA,true->ZF
open Array renaming size->z
namespace Go.Proofs.YtpmnbjkjpnclaaaGreatDoor.Vp
open RowKit
variable {w:M}{b n size g ZT i off n0 n1:Nat}{t:ByteArray}{e:ZH}{f l j:ZB}{a:Option Addr}
def keepS (f:Nat->Source)(t:ByteArray)(k:Nat):List Source:=((List.range k).map f).filter λx=>!(x.e.toList == t.toList)
def keepT (f:Nat->Target)(t:ByteArray)(k:Nat):List Target:=((List.range k).map f).filter λx=>!(x.e.toList == t.toList)
theorem wE{f:Nat->Source}{k:Nat}(h:((f k).e.toList == t.toList)=ZF):keepS f t (k+1)=keepS f t k:=by simp only[keepS,KV,JS,PM];simp[h]
theorem wF{f:Nat->Source}{k:Nat}(h:((f k).e.toList == t.toList)=ZA):keepS f t (k+1)=keepS f t k++[f k]:=by simp only[keepS,KV,JS,PM];simp[h]
theorem wG{f:Nat->Target}{k:Nat}(h:((f k).e.toList == t.toList)=ZF):keepT f t (k+1)=keepT f t k:=by simp only[keepT,KV,JS,PM];simp[h]
theorem wH{f:Nat->Target}{k:Nat}(h:((f k).e.toList == t.toList)=ZA):keepT f t (k+1)=keepT f t k++[f k]:=by simp only[keepT,KV,JS,PM];simp[h]
theorem gN (f:Nat->Source)(t:ByteArray)(k:Nat):(keepS f t k).length<=k:=by have:=QT (λx:Source=>!(x.e.toList == t.toList)) ((List.range k).map f);simpa[keepS] using this
theorem ja (f:Nat->Target)(t:ByteArray)(k:Nat):(keepT f t k).length<=k:=by have:=QT (λx:Target=>!(x.e.toList == t.toList)) ((List.range k).map f);simpa[keepT] using this
theorem dI{v:ZB}{f:List ZB}(h:w.ownsRow b e size v n f)(hn:0<n):∃g cap,v=Y (T (N g 0 Z)) n cap:=by
 rcases h.2 with ⟨_,h0⟩|⟨g,cap,cur,rfl,_⟩
 {omega};{exact⟨g,cap,rfl⟩}
theorem aL{v:ZB}{f:List ZB}(h:w.ownsRow b e size v n f):∃a cap,v=Y a n cap:=by
 rcases h.2 with ⟨rfl,rfl⟩|⟨g,cap,cur,rfl,_⟩
 {exact⟨_,_,rfl⟩};{exact⟨_,_,rfl⟩}
theorem cL (w:M)(x y:ZB)(t:ZH):∀j u,[x,y][j]?=T u->(B w (J #[x,y] t)).cell? (((N (z (A w)) 0 Z):Addr).add j)=T u:=by
 intro j u b;rw[addr_add,JC];match j,b with
 |0,b=>simp at b;subst b;simp
 |1,b=>simp at b;subst b;simp
abbrev TR:=Target × Nat × Nat
def aS (r:TR):List ZB:=[U r.1.e,Y (T (N r.2.1 0 Z)) r.1.m r.2.2]
structure TRow (w:M)(base:Nat)(v:ZB)(R:List TR):Prop where
 x:w.ownsRow base 146 2 v R.length (R.flatMap aS)
 D:∀r∈R,RowIns w r.2.1 0 r.1.m r.1.D/\(∃F,Cells w r.2.1 0 (r.1.m*3) F)/\TypeAt w r.2.1 151/\base<=r.2.1
 up:R.Pairwise λa b=>a.2.1≠b.2.1
theorem TypeAt.block{b:M}(h:TypeAt w g e)(hb:b.heap[g]?=w.heap[g]?):TypeAt b g e:=by obtain⟨c,f⟩:=h;exact⟨c,hb.trans f⟩
theorem RowIns.block{b:M}{f:Nat->Ins}(h:RowIns w g off n f)(hz:z (A w)<=z (A b))(hb:b.heap[g]?=w.heap[g]?):RowIns b g off n f:=by refine⟨lj h.1 hz,λi hi=>?_⟩;obtain⟨j,h1,h2⟩:=h.2 i hi;exact⟨(cq (a:=(N g _ Z)) hb).trans j,(cq (a:=(N g _ Z)) hb).trans h1,(cq (a:=(N g _ Z)) hb).trans h2⟩
theorem Cells.block{f:M}{m:Nat}{F:Nat->ZB}(h:Cells w b off m F)(hz:z (A w)<=z (A f))(e:f.heap[b]?=w.heap[b]?):Cells f b off m F :=
 ⟨lj h.1 hz,λj g=>⟨(cq (a:=(N b (off+j) Z)) e).trans (h.2 j g).1,(JK (a:=(N b (off+j) Z)) e).trans (h.2 j g).2⟩⟩
theorem TRow.aa{g:M}{v:ZB}{R:List TR}(h:TRow w b v R)(hb:Below ZT w g)(f:z (A w)<=ZT):TRow g b v R:=by refine⟨own_below h.x hb f,λr j=>?_,h.up⟩;obtain⟨h1,⟨F,h2⟩,i,l⟩:=h.D r j;have e:=hb.block r.2.1 (lj h1.1 f);exact⟨h1.block hb.size e,⟨F,h2.block hb.size e⟩,i.block e,l⟩
theorem TRow.set{X j:Nat}{v:ZB}{R:List TR}(h:TRow w b v R)(hX:X<b)(u:ZB):TRow (w.setCell (N X j Z) u) b v R:=by refine⟨aO h.x hX u,λr g=>?_,h.up⟩;obtain⟨h1,⟨F,h2⟩,f,i⟩:=h.D r g;have e:(w.setCell (N X j Z) u).heap[r.2.1]?=w.heap[r.2.1]?:=qh _ _ _ _ (by simp;omega);exact⟨h1.block (by simp) e,⟨F,h2.block (by simp) e⟩,f.block e,i⟩
theorem cP (w:M)(b:Nat):TRow w b (Y Z 0 0) []:=⟨ES _ _ _ _,λr f=>absurd f (by simp),List.Pairwise.nil⟩
theorem TRow.type{f:Nat}{v:ZB}{R:List TR}(h:TRow w f v R):∀k,v.ownBlock=T k->TypeAt w k 146:=by
 intro k b;rcases h.x.2 with ⟨rfl,_⟩|⟨g,cap,i,rfl,_,j,_⟩
 {simp[Value.ownBlock] at b};{simp[Value.ownBlock] at b;subst b;exact⟨i,j⟩}
theorem TRow.more{m s:M}{f c:Nat}{v u:ZB}{R:List TR}{x:Target}(h:TRow w f v R)(hb:Below (z (A w)) w m)(hg:z (A w)<=g)(n:f<=g)
  (t:m.ownsRow f 151 3 (Y (T (N g 0 Z)) x.m c) x.m (bX x.D x.m)) (q:s.ownsRow f 146 2 u (R.length+1) (R.flatMap aS++aS (x,g,c))) (i:m.grownBy s v.ownBlock):TRow s f u (R++[(x,g,c)]):=by
 have p:∀k,TypeAt m k 151->T k≠v.ownBlock:=λk ZR e=>by have ZS:=(h.aa hb ly).type k e.symm;exact dW ZR ZS (by decide) rfl
 have y:∀r∈R,r.2.1<z (A w):=λr j=>(h.D r j).1.1;refine⟨by simpa using q,λr j=>?_,?_⟩;{rcases BC.1 j with j|j;{obtain⟨h1,⟨F,h2⟩,l,ZT⟩:=(h.aa hb ly).D r j;have e:=i.block r.2.1 h1.1 (p _ l);exact⟨h1.block i.size e,⟨F,h2.block i.size e⟩,l.block e,ZT⟩};{simp at j;subst j;obtain⟨h1,F,h2⟩:=jy t;have l:=iK t;have e:=i.block g h1.1 (p _ l);exact⟨h1.block i.size e,⟨F,h2.block i.size e⟩,l.block e,n⟩}};{rw[KT];refine⟨h.up,by simp,λa C b o=>?_⟩;simp at o;subst o;have:=y a C;show a.2.1≠g;omega}
theorem yc{b0 s s0 s1:Nat}{n i:ZH}{r o:List ZB}(p:w.ownsRow b0 n s0 f n0 r)(h1:w.ownsRow s i s1 j n1 o)(m:n≠i):f.ownBlock=Z∨f.ownBlock≠j.ownBlock:=by
 rcases p.2 with ⟨rfl,_⟩|⟨g,cap,h,rfl,_,q,_⟩
 {exact .inl rfl}
 ·right;rcases h1.2 with ⟨rfl,_⟩|⟨g',cap',b,rfl,_,l,_⟩
  {simp[Value.ownBlock]};{simp only[Value.ownBlock,ne_eq,JE];exact dW ⟨h,q⟩ ⟨b,l⟩ m}
structure Boxes (w:M)(h:Nat)(p0 p1 v0 v1:ZB):Prop where
 lt:h+2<z (A w)
 a0:w.cell? (N h 0 Z)=T p0
 a1:w.cell? (N h 1 Z)=T p1
 r0:w.cell? (N (h+1) 0 Z)=T (Y Z 0 0)/\w.frozen? (N (h+1) 0 Z)=ZA
 r1:w.cell? (N (h+1) 1 Z)=T (Y Z 0 0)/\w.frozen? (N (h+1) 1 Z)=ZA
 o0:w.cell? (N (h+1+1) 0 Z)=T v0/\w.frozen? (N (h+1+1) 0 Z)=ZA
 o1:w.cell? (N (h+1+1) 1 Z)=T v1/\w.frozen? (N (h+1+1) 1 Z)=ZA
theorem Boxes.aa{g:M}{h:Nat}{m n:ZB}(b:Boxes w h m n l j)(hb:Below ZT w g)(hB:h+3<=ZT):Boxes g h m n l j:=by have c:∀k o,k<ZT->g.cell? (N k o Z)=w.cell? (N k o Z):=λk o i=>hb.cell (p:=(N k o Z)) i;have f:∀k o,k<ZT->g.frozen? (N k o Z)=w.frozen? (N k o Z):=λk o i=>hb.frozen (p:=(N k o Z)) i;exact⟨lj b.lt hb.size,(c _ _ (by omega)).trans b.a0,(c _ _ (by omega)).trans b.a1,⟨(c _ _ (by omega)).trans b.r0.1,(f _ _ (by omega)).trans b.r0.2⟩,⟨(c _ _ (by omega)).trans b.r1.1,(f _ _ (by omega)).trans b.r1.2⟩,⟨(c _ _ (by omega)).trans b.o0.1,(f _ _ (by omega)).trans b.o0.2⟩,⟨(c _ _ (by omega)).trans b.o1.1,(f _ _ (by omega)).trans b.o1.2⟩⟩
theorem Boxes.set0{h:Nat}{g i:ZB}(b:Boxes w h g i l f)(u:ZB):Boxes (w.setCell (N (h+1+1) 0 Z) u) h g i u f:=by have e:∀k o,k≠h+1+1->(w.setCell (N (h+1+1) 0 Z) u).cell? (N k o Z)=w.cell? (N k o Z):=λk o j=>cell_far _ _ _ _ (by simpa using λe=>j e.symm);exact⟨by simpa using b.lt,(e _ _ (by omega)).trans b.a0,(e _ _ (by omega)).trans b.a1,⟨(e _ _ (by omega)).trans b.r0.1,by simpa using b.r0.2⟩,⟨(e _ _ (by omega)).trans b.r1.1,by simpa using b.r1.2⟩,⟨DN _ _ _ (by rw[b.o0.1];rfl),by simpa using b.o0.2⟩,⟨(sq _ _ _ _ (by simp)).trans b.o1.1,by simpa using b.o1.2⟩⟩
theorem Boxes.set1{h:Nat}{g i:ZB}(b:Boxes w h g i f l)(u:ZB):Boxes (w.setCell (N (h+1+1) 1 Z) u) h g i f u:=by have e:∀k o,k≠h+1+1->(w.setCell (N (h+1+1) 1 Z) u).cell? (N k o Z)=w.cell? (N k o Z):=λk o j=>cell_far _ _ _ _ (by simpa using λe=>j e.symm);exact⟨by simpa using b.lt,(e _ _ (by omega)).trans b.a0,(e _ _ (by omega)).trans b.a1,⟨(e _ _ (by omega)).trans b.r0.1,by simpa using b.r0.2⟩,⟨(e _ _ (by omega)).trans b.r1.1,by simpa using b.r1.2⟩,⟨(sq _ _ _ _ (by simp)).trans b.o0.1,by simpa using b.o0.2⟩,⟨DN _ _ _ (by rw[b.o1.1];rfl),by simpa using b.o1.2⟩⟩
theorem yd (w:M)(b f:ZB)(t:ZH):Boxes (((B w (J #[b,f] t)).alloc (J #[Y Z 0 0,Y Z 0 0] t)).alloc (J #[Y Z 0 0,Y Z 0 0] t)) (z (A w)) b f (Y Z 0 0) (Y Z 0 0):=by
 have ZS:Below (z (A w)+1) (B w (J #[b,f] t)) (((B w (J #[b,f] t)).alloc (J #[Y Z 0 0,Y Z 0 0] t)).alloc (J #[Y Z 0 0,Y Z 0 0] t)):=(br.alloc (by simp) _).alloc (by simp) _;have C:Below (z (A w)+1+1) ((B w (J #[b,f] t)).alloc (J #[Y Z 0 0,Y Z 0 0] t)) (((B w (J #[b,f] t)).alloc (J #[Y Z 0 0,Y Z 0 0] t)).alloc (J #[Y Z 0 0,Y Z 0 0] t)):=br.alloc (by simp) _;have hz:(B w (J #[b,f] t)).heap.size=z (A w)+1:=by simp
 have g:((B w (J #[b,f] t)).alloc (J #[Y Z 0 0,Y Z 0 0] t)).heap.size=z (A w)+1+1:=by simp
 refine⟨by simp,?_,?_,⟨?_,?_⟩,⟨?_,?_⟩,⟨?_,?_⟩,⟨?_,?_⟩⟩;{exact(ZS.cell (p:=(N (z (A w)) 0 Z)) (AD _)).trans (by simp)};{exact(ZS.cell (p:=(N (z (A w)) 1 Z)) (AD _)).trans (by simp)};{refine(C.cell (p:=(N (z (A w)+1) 0 Z)) (AD _)).trans ?_;rw[<-hz];simp};{refine(C.frozen (p:=(N (z (A w)+1) 0 Z)) (AD _)).trans ?_;rw[<-hz];simp};{refine(C.cell (p:=(N (z (A w)+1) 1 Z)) (AD _)).trans ?_;rw[<-hz];simp};{refine(C.frozen (p:=(N (z (A w)+1) 1 Z)) (AD _)).trans ?_;rw[<-hz];simp};all_goals
  rw[<-g];clear ZS C hz g;generalize (B w (J #[b,f] t)).alloc (J #[Y Z 0 0,Y Z 0 0] t)=W;simp
def jR (n0:Nat)(f0:Nat->Source)(n1:Nat)(f1:Nat->Target)(t:ByteArray):Int :=
 if be n0 f0 n1 f1≠0 then 1 else if aA t=ZA then 2 else if (aF (nm0 f0) n0 t || aF (nm1 f1) n1 t)=ZA then 4 else 0
def iu (n0:Nat)(f0:Nat->Source)(n1:Nat)(f1:Nat->Target)(t:ByteArray):List Source:=if jR n0 f0 n1 f1 t=0 then keepS f0 t n0 else []
def jS (n0:Nat)(f0:Nat->Source)(n1:Nat)(f1:Nat->Target)(t:ByteArray):List Target:=if jR n0 f0 n1 f1 t=0 then keepT f1 t n1 else []
theorem wI{p:Nat->Bool}(h:aM p n=ZA)(hi:i<n):p i=ZA:=by
 cases e:p i with
 |false=>rfl
 |true=>rw[dy hi e] at h;cases h
theorem jT{f0:Nat->Source}{f1:Nat->Target}(h:be n0 f0 n1 f1=0):aP (nm0 f0) n0=ZF/\aP (nm1 f1) n1=ZF/\∀i,i<n1->1<=(f1 i).m:=by
 unfold be at h;split at h;· omega
 split at h;· omega
 split at h;· omega
 split at h;· omega
 split at h;· omega
 split at h;· omega
 split at h;· omega
 split at h;· omega
 rename_i b l _ _ j;refine⟨by simpa using b,by simpa using l,λi hi=>?_⟩;have g:=wI (by simpa using j) hi;have f:valid (f1 i).D (f1 i).m=ZF:=by simpa[cK] using g
 have:=(bM f).2.1;omega
theorem fC{base':Nat}{v:ZB}{R:List TR}(h:TRow w b v R)(hb:base'<=b):TRow w base' v R:=by refine⟨aC h.x hb,λr g=>?_,h.up⟩;obtain⟨h1,h2,f,h4⟩:=h.D r g;exact⟨h1,h2,f,by omega⟩
structure Pair (w:M)(h:Nat)(p0 p1:ZB):Prop where
 lt:h+1<z (A w)
 a0:w.cell? (N h 0 Z)=T p0
 a1:w.cell? (N h 1 Z)=T p1
 r0:w.cell? (N (h+1) 0 Z)=T (Y Z 0 0)/\w.frozen? (N (h+1) 0 Z)=ZA
 r1:w.cell? (N (h+1) 1 Z)=T (Y Z 0 0)/\w.frozen? (N (h+1) 1 Z)=ZA
theorem Pair.lt'{h:Nat}{g:ZB}(b:Pair w h f g):h+2<=z (A w):=b.lt
theorem Pair.aa{g:M}{h:Nat}(b:Pair w h j l)(hb:Below ZT w g)(hB:h+2<=ZT):Pair g h j l:=by have c:∀k o,k<ZT->g.cell? (N k o Z)=w.cell? (N k o Z):=λk o i=>hb.cell (p:=(N k o Z)) i;have f:∀k o,k<ZT->g.frozen? (N k o Z)=w.frozen? (N k o Z):=λk o i=>hb.frozen (p:=(N k o Z)) i;exact⟨lj b.lt hb.size,(c _ _ (by omega)).trans b.a0,(c _ _ (by omega)).trans b.a1,⟨(c _ _ (by omega)).trans b.r0.1,(f _ _ (by omega)).trans b.r0.2⟩,⟨(c _ _ (by omega)).trans b.r1.1,(f _ _ (by omega)).trans b.r1.2⟩⟩
theorem r8 (w:M)(b f:ZB)(t:ZH):Pair ((B w (J #[b,f] t)).alloc (J #[Y Z 0 0,Y Z 0 0] t)) (z (A w)) b f:=by
 have ZS:Below (z (A w)+1) (B w (J #[b,f] t)) ((B w (J #[b,f] t)).alloc (J #[Y Z 0 0,Y Z 0 0] t)):=br.alloc (by simp) _;have hz:(B w (J #[b,f] t)).heap.size=z (A w)+1:=by simp
 refine⟨by simp,(ZS.cell (p:=(N (z (A w)) 0 Z)) (AD _)).trans (by simp),(ZS.cell (p:=(N (z (A w)) 1 Z)) (AD _)).trans (by simp),⟨?_,?_⟩,⟨?_,?_⟩⟩;all_goals
  rw[<-hz];clear ZS hz;generalize B w (J #[b,f] t)=W;simp
theorem r9 (b off n0 c0:Nat)(a1:Option Addr)(n1 c1:Nat)(f0:Nat->Source)(t:ByteArray)(w:M)(hn0:(n0:Int)<=1048576)(l:RowSource w b off n0 f0):Calls Tryz.prog 51 #[ZG #[Y (T (N b off Z)) n0 c0,Y a1 n1 c1],U t] w λe q=>∃r:Int,e=ZD (Q I r)/\decide (0<=r)=aF (nm0 f0) n0 t/\Below (z (A w)) w q:=by
 obtain⟨W,f⟩:∃W:M,B w (J #[Y (T (N b off Z)) n0 c0,Y a1 n1 c1] 27)=W:=⟨_,rfl⟩
 obtain⟨m,-,-⟩:=nb1 f;have h:=ae f;clear f;have p:=ae (l.aa m ly);have k1:W.cell? (N (z (A w)) 0 Z)=T (Y (T (N b off Z)) n0 c0):=by rw[<-h.out];simp
 clear l;go_enter RF,QD;go_wp2;rw[h.out];clear h;go_loop [5] (λi=>∃k:Nat,k<=n0/\i=Q I k/\Hid (aF (nm0 f0) k t=ZA)) (λi=>n0 - (intOf i).toNat);case atStart=>exact⟨0,by omega,rfl,rfl⟩
 case round =>
  obtain⟨k,hk,rfl,o⟩:=hrel;by_cases j:k<n0
  ·obtain⟨d0,d1⟩:=p.2 k j;cases hb:((f0 k).e.toList == t.toList) with
   |true =>have n:=ae hb;go_wp2;go_ret;exact⟨k,rfl,by rw[dM (g:=nm0 f0) j n.out];simp,m.out⟩
   |false =>have n:=ae hb;go_wp2;exact⟨⟨k+1,by omega,by go_num,by show aF (nm0 f0) (k+1) t=ZA;rw[fA,o.out];exact n⟩,by simp[intOf];omega⟩
  ·have e:k=n0:=by omega
   subst e;go_wp2;go_ret;exact⟨-1,rfl,by rw[o.out];rfl,m⟩
theorem sd (a0:Option Addr)(c0:Nat)(a1:Option Addr)(n1 c1:Nat)(g:Nat->ByteArray)(t:ByteArray)(w:M):Calls Tryz.prog 51 #[ZG #[Y a0 0 c0,Y a1 n1 c1],U t] w λe f=>∃r:Int,e=ZD (Q I r)/\decide (0<=r)=aF g 0 t/\Below (z (A w)) w f:=by
 have b:=ae ((BS w).alloc ly (J #[Y a0 0 c0,Y a1 n1 c1] 27));go_enter RF,QD;go_wp2;go_loop [5] (λi=>i=Q I 0) (λ_=>0);case atStart=>rfl
 case round =>subst hrel;go_wp2;go_ret;exact⟨-1,rfl,by rw[fy];rfl,b⟩
theorem se (a0:Option Addr)(n0 c0:Nat)(a1:Option Addr)(n1 c1:Nat)(f0:Nat->Source)(t:ByteArray)(w:M)(hn0:(n0:Int)<=1048576)(f:SlSource w a0 n0 f0):Calls Tryz.prog 51 #[ZG #[Y a0 n0 c0,Y a1 n1 c1],U t] w λe h=>∃r:Int,e=ZD (Q I r)/\decide (0<=r)=aF (nm0 f0) n0 t/\Below (z (A w)) w h:=by
 rcases f with rfl|⟨b,off,rfl,g⟩
 {exact sd a0 c0 a1 n1 c1 (nm0 f0) t w};{exact r9 b off n0 c0 a1 n1 c1 f0 t w hn0 g}
def dfS:Source:=⟨⟨#[]⟩,⟨#[]⟩⟩
def dfT:Target:=⟨⟨#[]⟩,0,λ_=>⟨0,⟨#[]⟩,0⟩⟩
def dfR:TR:=(dfT,0,0)
def bY (L:List Source)(i:Nat):Source:=L.getD i dfS
def bD (L:List Target)(i:Nat):Target:=L.getD i dfT
theorem lU{c:Nat}{L:List Source}(h:w.ownsRow b 142 2 (Y a L.length c) L.length (L.flatMap bi)):SlSource w a L.length (bY L):=by
 by_cases hn:L.length=0;{exact .inl hn}
 ·obtain⟨g,c',e⟩:=dI h (by omega);simp at e;obtain⟨rfl,rfl⟩:=e;refine .inr ⟨g,0,rfl,(cO h).2,λi hi=>?_⟩;have f:L[i]?=T (bY L i):=by rw[bY,JB,gq hi];rfl
  refine⟨?_,?_⟩;{have:=(aV h (j:=i*2) (u:=U (bY L i).e) (by have:=cF bi 2 (λ_=>rfl) L i 0 (by omega) _ f;simpa[bi] using this)).1;rwa[show 0+i*2=i*2 by omega]};{have:=(aV h (j:=i*2+1) (u:=U (bY L i).y) (by have:=cF bi 2 (λ_=>rfl) L i 1 (by omega) _ f;simpa[bi] using this)).1;rwa[show 0+i*2+1=i*2+1 by omega]}
theorem uU{R:List TR}(hi:i<R.length):∃r,R[i]?=T r/\r∈R:=⟨R[i],gq hi,gz hi⟩
theorem Ab{f c:Nat}{R:List TR}(h:TRow w f (Y a R.length c) R):SlTarget w a R.length (bD (R.map (·.1))):=by
 by_cases hn:R.length=0;{exact .inl hn}
 ·obtain⟨g,c',e⟩:=dI h.x (by omega);simp at e;obtain⟨rfl,rfl⟩:=e;refine .inr ⟨g,0,rfl,(cO h.x).2,λi hi=>?_⟩;obtain⟨r,b,l⟩:=uU hi;have m:bD (R.map (·.1)) i=r.1:=by rw[bD,JB,JM,b];rfl
  rw[m];obtain⟨h1,_,_,_⟩:=h.D r l;refine⟨?_,T (N r.2.1 0 Z),r.2.2,?_,h1.sl⟩;{have:=(aV h.x (j:=i*2) (u:=U r.1.e) (by have:=cF aS 2 (λ_=>rfl) R i 0 (by omega) _ b;simpa[aS] using this)).1;rwa[show 0+i*2=i*2 by omega]};{have:=(aV h.x (j:=i*2+1) (u:=Y (T (N r.2.1 0 Z)) r.1.m r.2.2) (by have:=cF aS 2 (λ_=>rfl) R i 1 (by omega) _ b;simpa[aS] using this)).1;rwa[show 0+i*2+1=i*2+1 by omega]}
theorem FJ{l:M}{v:ZB}{j:List ZB}{P:Nat->Prop}(h:w.ownsRow b e size v n j)(o:Touch P w l)(p:∀k,v.ownBlock=T k->¬ P k):l.ownsRow b e size v n j:=by
 refine⟨h.1,?_⟩;rcases h.2 with h|⟨g,cap,f,i,q,m,r⟩
 {exact .inl h};{refine .inr ⟨g,cap,f,i,q,(o.block g ?_ (p g (by rw[i];rfl))).trans m,r⟩;exact(E7.1 m).1}
theorem pa:∀a b:List UInt8,decide (0<Lib.compareBytes a b)=Op.bytesLess b a
 |[],[]=>by simp[Lib.compareBytes,Op.bytesLess]
 |[],_::_=>by simp[Lib.compareBytes,Op.bytesLess]
 |_::_,[]=>by simp[Lib.compareBytes,Op.bytesLess]
 |a::x,b::y=>by
  have g:=pa x y;rw[Lib.compareBytes,Op.bytesLess,<-g];by_cases h1:a<b
  ·have f:¬ b=a:=λe=>by subst e;exact(UInt8.lt_irrefl _ h1)
   have i:¬ b<a:=λh=>UInt8.lt_irrefl _ (UInt8.lt_trans h1 h);simp[h1,f,i]
  ·rw[eT h1]
   by_cases h2:b<a
   ·simp[h2]
   ·have f:a=b:=UInt8.le_antisymm (QL.1 h2) (QL.1 h1)
    subst f;simp[h1]
theorem pY{a b:ByteArray}(h:aG b a=ZF):aG a b=ZA/\(a.toList == b.toList)=ZA:=by have h1:=lT a.data.toList b.data.toList;have h2:=jQ a.data.toList b.data.toList;have f:=pa a.data.toList b.data.toList;simp only[aG,JO] at h ⊢;rw[<-h1,<-h2];rw[<-f] at h;simp at h ⊢;omega
theorem sf{a b:ByteArray}(h:aG b a=ZA):aG a b=ZF∨(aG a b=ZA/\(a.toList == b.toList)=ZF):=by have h1:=lT a.data.toList b.data.toList;have h2:=jQ a.data.toList b.data.toList;have f:=pa a.data.toList b.data.toList;simp only[aG,JO] at h ⊢;rw[<-h1,<-h2];rw[<-f] at h;simp only[JY,xT] at h ⊢;omega
structure FD (w:M)(b:Nat)(v0 v1:ZB):Prop where
 lt:b<z (A w)
 c0:w.cell? (N b 0 Z)=T v0
 c1:w.cell? (N b 1 Z)=T v1
 z0:w.frozen? (N b 0 Z)=ZA
 z1:w.frozen? (N b 1 Z)=ZA
theorem sj (w:M)(b f:ZB)(t:ZH):FD (B w (J #[b,f] t)) (z (A w)) b f:=⟨by simp,by simp,by simp,by simp,by simp⟩
def dX (L:List Source)(t:ByteArray):Nat->Bool
 |0=>ZA
 |k+1=>dX L t k || aG t (bY L k).e
def bS (L:List Source)(x:Source)(t:ByteArray):Nat->List Source
 |0=>[]
 |k+1=>if dX L t k=ZA/\aG t (bY L k).e=ZF then bS L x t k++[x]++[bY L k] else bS L x t k++[bY L k]
def pd (L:List Source)(x:Source)(t:ByteArray):List Source:=if dX L t L.length=ZF then bS L x t L.length else bS L x t L.length++[x]
theorem pZ (L:List Source)(x:Source)(t:ByteArray)(k:Nat):(bS L x t k).length<=k+1/\(dX L t k=ZA->(bS L x t k).length=k):=by
 induction k with
 |zero=>simp[bS]
 |succ j b =>
  simp only[bS,dX];cases hd:dX L t j with
  |false =>
   have h1:=b.2 hd;cases hl:aG t (bY L j).e with
   |true=>simp[h1]
   |false=>simp[h1]
  |true =>have h1:=b.1;simp;omega
def mX (n0:Nat)(f0:Nat->Source)(n1:Nat)(f1:Nat->Target)(t tx:ByteArray):Int :=
 if be n0 f0 n1 f1≠0 then 1 else if aA t=ZA∨2000<(tx.size:Int) then 2 else if 200<=(keepS f0 t n0).length+(keepT f1 t n1).length then 3 else 0
def jU (n0:Nat)(f0:Nat->Source)(n1:Nat)(f1:Nat->Target)(t tx:ByteArray):List Source:=if mX n0 f0 n1 f1 t tx=0 then pd (keepS f0 t n0) ⟨t,tx⟩ t else []
def mZ (n0:Nat)(f0:Nat->Source)(n1:Nat)(f1:Nat->Target)(t tx:ByteArray):List Target:=if mX n0 f0 n1 f1 t tx=0 then keepT f1 t n1 else []
def jV (n0:Nat)(f0:Nat->Source)(n1:Nat)(f1:Nat->Target)(t:ByteArray)(b:Bool):Int :=
 if be n0 f0 n1 f1≠0 then 1 else if aA t=ZA∨b=ZA then 2 else if 200<=(keepS f0 t n0).length+(keepT f1 t n1).length then 3 else 0
def eO (g:Nat->ByteArray)(t:ByteArray):Nat->Bool
 |0=>ZA
 |k+1=>eO g t k || aG t (g k)
def dY {b:Type}(g:Nat->ByteArray)(F:Nat->b)(x:b)(t:ByteArray):Nat->List b
 |0=>[]
 |k+1=>if eO g t k=ZA/\aG t (g k)=ZF then dY g F x t k++[x]++[F k] else dY g F x t k++[F k]
def jW {b:Type}(g:Nat->ByteArray)(F:Nat->b)(x:b)(t:ByteArray)(n:Nat):List b:=if eO g t n=ZF then dY g F x t n else dY g F x t n++[x]
theorem su{b:Type}(g:Nat->ByteArray)(F:Nat->b)(x:b)(t:ByteArray)(k:Nat):(dY g F x t k).length<=k+1/\(eO g t k=ZA->(dY g F x t k).length=k):=by
 induction k with
 |zero=>simp[dY]
 |succ j f =>
  simp only[dY,eO];cases hd:eO g t j with
  |false =>
   have h1:=f.2 hd;cases hl:aG t (g j) with
   |true=>simp[h1]
   |false=>simp[h1]
  |true =>have h1:=f.1;simp;omega
theorem sy{b h:Type}(p:b->h)(g:Nat->ByteArray)(F:Nat->b)(x:b)(t:ByteArray)(k:Nat):(dY g F x t k).map p=dY g (λi=>p (F i)) (p x) t k:=by
 induction k with
 |zero=>rfl
 |succ j f =>simp only[dY];split<;>simp[f]
theorem Ac{b f:Type}(p:b->f)(g:Nat->ByteArray)(F:Nat->b)(x:b)(t:ByteArray)(n:Nat):(jW g F x t n).map p=jW g (λi=>p (F i)) (p x) t n:=by
 unfold jW;split;{exact sy p g F x t n};{rw[JS,sy];rfl}
theorem uV{L:List Target}(h:i<L.length):bD L i=L[i]:=by rw[bD,JB,gq h];rfl
def sA (K:List Target)(x:Target)(t:ByteArray):List Target:=jW (nm1 (bD K)) (λj=>K.getD j dfT) x t K.length
