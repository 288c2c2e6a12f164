import Derived.Test.YtpmnbjkjpnclaaaGreatDoorRB
import Derived.Test.YtpmnbjkjpnclaaaGreatDoorRQ
set_option maxHeartbeats 1000000
open Go renaming Addr.mk->Q,Value.slice->Z,Value.string->U,Value.int->N,Value.agg->ZH,Obj.cells->J,IntKind.i64->I,World->M,Value->ZC,TypeId->ZI,Ending.returned->ZF,World.alloc->A
open Option renaming none->Y,some->T
open Bool renaming false->ZA,true->ZG
namespace Go.Proofs.YtpmnbjkjpnclaaaGreatDoor.Vp
open Tryz RowKit Go.Sort
variable {w:M}{b n size g B c i off n0 n1:Nat}{t:ByteArray}{e:ZI}{j f l:ZC}{a:Option Addr}
theorem rh:∀a b:List UInt8,decide (Lib.compareBytes a b<0)=Op.bytesLess a b
 |[],[]=>by simp[Lib.compareBytes,Op.bytesLess]
 |[],_::_=>by simp[Lib.compareBytes,Op.bytesLess]
 |_::_,[]=>by simp[Lib.compareBytes,Op.bytesLess]
 |a::x,b::y=>by
  have c:=rh x y;rw[Lib.compareBytes,Op.bytesLess,<-c];by_cases h1:a<b
  ·simp[h1]
  ·rw[gM h1]
   by_cases h2:b<a
   ·have h3:¬ a=b:=λe=>by subst e;exact h1 h2
    simp[h1,h2,h3]
   ·have h3:a=b:=UInt8.le_antisymm (VK.1 h2) (VK.1 h1)
    subst h3;simp[h1]
theorem pd:∀a b:List UInt8,decide (Lib.compareBytes a b=0)=(a == b)
 |[],[]=>by simp[Lib.compareBytes]
 |[],_::_=>by simp[Lib.compareBytes]
 |_::_,[]=>by simp[Lib.compareBytes]
 |a::x,b::y=>by
  have c:=pd x y;rw[Lib.compareBytes];by_cases h1:a<b
  ·have h3:¬ a=b:=λe=>by subst e;exact(UInt8.lt_irrefl _ h1)
   simp[h1,h3]
  ·rw[gM h1]
   by_cases h2:b<a
   ·have h3:¬ a=b:=λe=>by subst e;exact h1 h2
    simp[h2,h3]
   ·have h3:a=b:=UInt8.le_antisymm (VK.1 h2) (VK.1 h1)
    subst h3;rw[gM h2,c];simp
def bY (f:Nat->Source)(t:ByteArray)(k:Nat):List Source:=((List.range k).map f).filter λx=>!(x.e.toList == t.toList)
def keepT (f:Nat->Target)(t:ByteArray)(k:Nat):List Target:=((List.range k).map f).filter λx=>!(x.e.toList == t.toList)
theorem zH{f:Nat->Source}{k:Nat}(h:((f k).e.toList == t.toList)=ZG):bY f t (k+1)=bY f t k:=by simp only[bY,PD,DN,U6];simp[h]
theorem zI{f:Nat->Source}{k:Nat}(h:((f k).e.toList == t.toList)=ZA):bY f t (k+1)=bY f t k++[f k]:=by simp only[bY,PD,DN,U6];simp[h]
theorem zJ{f:Nat->Target}{k:Nat}(h:((f k).e.toList == t.toList)=ZG):keepT f t (k+1)=keepT f t k:=by simp only[keepT,PD,DN,U6];simp[h]
theorem zK{f:Nat->Target}{k:Nat}(h:((f k).e.toList == t.toList)=ZA):keepT f t (k+1)=keepT f t k++[f k]:=by simp only[keepT,PD,DN,U6];simp[h]
theorem ku (f:Nat->Source)(t:ByteArray)(k:Nat):(bY f t k).length<=k:=by have:=List.length_filter_le (λx:Source=>!(x.e.toList == t.toList)) ((List.range k).map f);simpa[bY] using this
theorem kv (f:Nat->Target)(t:ByteArray)(k:Nat):(keepT f t k).length<=k:=by have:=List.length_filter_le (λx:Target=>!(x.e.toList == t.toList)) ((List.range k).map f);simpa[keepT] using this
theorem fv{v:ZC}{c:List ZC}(h:w.ownsRow b e size v n c)(hn:0<n):∃g cap,v=Z (T (Q g 0 Y)) n cap:=by
 rcases h.2 with ⟨_,h0⟩|⟨g,cap,cur,rfl,_⟩
 {omega};{exact⟨g,cap,rfl⟩}
theorem aU{v:ZC}{c:List ZC}(h:w.ownsRow b e size v n c):∃a cap,v=Z a n cap:=by
 rcases h.2 with ⟨rfl,rfl⟩|⟨g,cap,cur,rfl,_⟩
 {exact⟨_,_,rfl⟩};{exact⟨_,_,rfl⟩}
theorem dv (w:M)(x y:ZC)(t:ZI):∀j u,[x,y][j]?=T u->(A w (J #[x,y] t)).cell? (((Q w.heap.size 0 Y):Addr).add j)=T u:=by
 intro j u b;rw[addr_add,FM];match j,b with
 |0,b=>simp at b;subst b;simp
 |1,b=>simp at b;subst b;simp
abbrev TR:=Target × Nat × Nat
def bj (r:TR):List ZC:=[U r.1.e,Z (T (Q r.2.1 0 Y)) r.1.f r.2.2]
structure TRow (w:M)(base:Nat)(v:ZC)(R:List TR):Prop where
 i:w.ownsRow base 146 2 v R.length (R.flatMap bj)
 H:∀r∈R,RowIns w r.2.1 0 r.1.f r.1.H/\(∃F,Cells w r.2.1 0 (r.1.f*3) F)/\TypeAt w r.2.1 151/\base<=r.2.1
 up:R.Pairwise λa b=>a.2.1≠b.2.1
theorem TypeAt.block{b:M}(h:TypeAt w g e)(hb:b.heap[g]?=w.heap[g]?):TypeAt b g e:=by obtain⟨c,f⟩:=h;exact⟨c,hb.trans f⟩
theorem RowIns.block{b:M}{f:Nat->Ins}(h:RowIns w g off n f)(hz:w.heap.size<=b.heap.size)(hb:b.heap[g]?=w.heap[g]?):RowIns b g off n f:=by refine⟨lj h.1 hz,λi hi=>?_⟩;obtain⟨c,h1,h2⟩:=h.2 i hi;exact⟨(cq (a:=(Q g _ Y)) hb).trans c,(cq (a:=(Q g _ Y)) hb).trans h1,(cq (a:=(Q g _ Y)) hb).trans h2⟩
theorem Cells.block{c:M}{m:Nat}{F:Nat->ZC}(h:Cells w b off m F)(hz:w.heap.size<=c.heap.size)(e:c.heap[b]?=w.heap[b]?):Cells c b off m F :=
 ⟨lj h.1 hz,λj f=>⟨(cq (a:=(Q b (off+j) Y)) e).trans (h.2 j f).1,(JN (a:=(Q b (off+j) Y)) e).trans (h.2 j f).2⟩⟩
theorem TRow.aa{f:M}{v:ZC}{R:List TR}(h:TRow w b v R)(hb:Below B w f)(c:w.heap.size<=B):TRow f b v R:=by refine⟨own_below h.i hb c,λr g=>?_,h.up⟩;obtain⟨h1,⟨F,h2⟩,h3,h4⟩:=h.H r g;have e:=hb.block r.2.1 (lj h1.1 c);exact⟨h1.block hb.size e,⟨F,h2.block hb.size e⟩,h3.block e,h4⟩
theorem TRow.set{X j:Nat}{v:ZC}{R:List TR}(h:TRow w b v R)(hX:X<b)(u:ZC):TRow (w.setCell (Q X j Y) u) b v R:=by refine⟨aQ h.i hX u,λr c=>?_,h.up⟩;obtain⟨h1,⟨F,h2⟩,h3,h4⟩:=h.H r c;have e:(w.setCell (Q X j Y) u).heap[r.2.1]?=w.heap[r.2.1]?:=qh _ _ _ _ (by simp;omega);exact⟨h1.block (by simp) e,⟨F,h2.block (by simp) e⟩,h3.block e,h4⟩
theorem dh (w:M)(b:Nat):TRow w b (Z Y 0 0) []:=⟨A9 _ _ _ _,λr c=>absurd c (by simp),List.Pairwise.nil⟩
theorem TRow.type{v:ZC}{R:List TR}(h:TRow w b v R):∀k,v.ownBlock=T k->TypeAt w k 146:=by
 intro k c;rcases h.i.2 with ⟨rfl,_⟩|⟨g,cap,f,rfl,_,i,_⟩
 {simp[Value.ownBlock] at c};{simp[Value.ownBlock] at c;subst c;exact⟨f,i⟩}
theorem TRow.more{m p:M}{f:Nat}{v u:ZC}{R:List TR}{x:Target}(h:TRow w f v R)(hb:Below w.heap.size w m)(hg:w.heap.size<=g)(l:f<=g)
  (s:m.ownsRow f 151 3 (Z (T (Q g 0 Y)) x.f c) x.f (bJ x.H x.f)) (q:p.ownsRow f 146 2 u (R.length+1) (R.flatMap bj++bj (x,g,c))) (i:m.grownBy p v.ownBlock):TRow p f u (R++[(x,g,c)]):=by
 have o:∀k,TypeAt m k 151->T k≠v.ownBlock:=λk z e=>by have y:=(h.aa hb ly).type k e.symm;exact iF z y (by decide) rfl
 have t:∀r∈R,r.2.1<w.heap.size:=λr j=>(h.H r j).1.1;refine⟨by simpa using q,λr j=>?_,?_⟩;{rcases p8.1 j with j|j;{obtain⟨h1,⟨F,h2⟩,h3,h4⟩:=(h.aa hb ly).H r j;have e:=i.block r.2.1 h1.1 (o _ h3);exact⟨h1.block i.size e,⟨F,h2.block i.size e⟩,h3.block e,h4⟩};{simp at j;subst j;obtain⟨h1,F,h2⟩:=nT s;have h3:=lU s;have e:=i.block g h1.1 (o _ h3);exact⟨h1.block i.size e,⟨F,h2.block i.size e⟩,h3.block e,l⟩}};{rw[PM];refine⟨h.up,by simp,λa ZS b n=>?_⟩;simp at n;subst n;have:=t a ZS;show a.2.1≠g;omega}
theorem Cb{b0 o r p:Nat}{f i:ZI}{b:ZC}{t q:List ZC}(n:w.ownsRow b0 f r b n0 t)(h1:w.ownsRow o i p j n1 q)(l:f≠i):b.ownBlock=Y∨b.ownBlock≠j.ownBlock:=by
 rcases n.2 with ⟨rfl,_⟩|⟨g,cap,h,rfl,_,s,_⟩
 {exact .inl rfl}
 ·right;rcases h1.2 with ⟨rfl,_⟩|⟨g',cap',c,rfl,_,m,_⟩
  {simp[Value.ownBlock]};{simp only[Value.ownBlock,ne_eq,OU];exact iF ⟨h,s⟩ ⟨c,m⟩ l}
structure Boxes (w:M)(h:Nat)(p0 p1 v0 v1:ZC):Prop where
 lt:h+2<w.heap.size
 a0:w.cell? (Q h 0 Y)=T p0
 a1:w.cell? (Q h 1 Y)=T p1
 r0:w.cell? (Q (h+1) 0 Y)=T (Z Y 0 0)/\w.frozen? (Q (h+1) 0 Y)=ZA
 r1:w.cell? (Q (h+1) 1 Y)=T (Z Y 0 0)/\w.frozen? (Q (h+1) 1 Y)=ZA
 o0:w.cell? (Q (h+1+1) 0 Y)=T v0/\w.frozen? (Q (h+1+1) 0 Y)=ZA
 o1:w.cell? (Q (h+1+1) 1 Y)=T v1/\w.frozen? (Q (h+1+1) 1 Y)=ZA
theorem Boxes.aa{g:M}{h:Nat}{m n:ZC}(b:Boxes w h j m l n)(hb:Below B w g)(hB:h+3<=B):Boxes g h j m l n:=by have c:∀k o,k<B->g.cell? (Q k o Y)=w.cell? (Q k o Y):=λk o i=>hb.cell (p:=(Q k o Y)) i;have f:∀k o,k<B->g.frozen? (Q k o Y)=w.frozen? (Q k o Y):=λk o i=>hb.frozen (p:=(Q k o Y)) i;exact⟨lj b.lt hb.size,(c _ _ (by omega)).trans b.a0,(c _ _ (by omega)).trans b.a1,⟨(c _ _ (by omega)).trans b.r0.1,(f _ _ (by omega)).trans b.r0.2⟩,⟨(c _ _ (by omega)).trans b.r1.1,(f _ _ (by omega)).trans b.r1.2⟩,⟨(c _ _ (by omega)).trans b.o0.1,(f _ _ (by omega)).trans b.o0.2⟩,⟨(c _ _ (by omega)).trans b.o1.1,(f _ _ (by omega)).trans b.o1.2⟩⟩
theorem Boxes.set0{h:Nat}{c i g:ZC}(b:Boxes w h c f i g)(u:ZC):Boxes (w.setCell (Q (h+1+1) 0 Y) u) h c f u g:=by have e:∀k o,k≠h+1+1->(w.setCell (Q (h+1+1) 0 Y) u).cell? (Q k o Y)=w.cell? (Q k o Y):=λk o j=>cell_far _ _ _ _ (by simpa using λe=>j e.symm);exact⟨by simpa using b.lt,(e _ _ (by omega)).trans b.a0,(e _ _ (by omega)).trans b.a1,⟨(e _ _ (by omega)).trans b.r0.1,by simpa using b.r0.2⟩,⟨(e _ _ (by omega)).trans b.r1.1,by simpa using b.r1.2⟩,⟨CX _ _ _ (by rw[b.o0.1];rfl),by simpa using b.o0.2⟩,⟨(sq _ _ _ _ (by simp)).trans b.o1.1,by simpa using b.o1.2⟩⟩
theorem Boxes.set1{h:Nat}{c g:ZC}(b:Boxes w h c g f j)(u:ZC):Boxes (w.setCell (Q (h+1+1) 1 Y) u) h c g f u:=by have e:∀k o,k≠h+1+1->(w.setCell (Q (h+1+1) 1 Y) u).cell? (Q k o Y)=w.cell? (Q k o Y):=λk o i=>cell_far _ _ _ _ (by simpa using λe=>i e.symm);exact⟨by simpa using b.lt,(e _ _ (by omega)).trans b.a0,(e _ _ (by omega)).trans b.a1,⟨(e _ _ (by omega)).trans b.r0.1,by simpa using b.r0.2⟩,⟨(e _ _ (by omega)).trans b.r1.1,by simpa using b.r1.2⟩,⟨(sq _ _ _ _ (by simp)).trans b.o0.1,by simpa using b.o0.2⟩,⟨CX _ _ _ (by rw[b.o1.1];rfl),by simpa using b.o1.2⟩⟩
theorem Cc (w:M)(b c:ZC)(t:ZI):Boxes (((A w (J #[b,c] t)).alloc (J #[Z Y 0 0,Z Y 0 0] t)).alloc (J #[Z Y 0 0,Z Y 0 0] t)) w.heap.size b c (Z Y 0 0) (Z Y 0 0):=by
 have ZS:Below (w.heap.size+1) (A w (J #[b,c] t)) (((A w (J #[b,c] t)).alloc (J #[Z Y 0 0,Z Y 0 0] t)).alloc (J #[Z Y 0 0,Z Y 0 0] t)):=(br.alloc (by simp) _).alloc (by simp) _;have C:Below (w.heap.size+1+1) ((A w (J #[b,c] t)).alloc (J #[Z Y 0 0,Z Y 0 0] t)) (((A w (J #[b,c] t)).alloc (J #[Z Y 0 0,Z Y 0 0] t)).alloc (J #[Z Y 0 0,Z Y 0 0] t)):=br.alloc (by simp) _;have hz:(A w (J #[b,c] t)).heap.size=w.heap.size+1:=by simp
 have f:((A w (J #[b,c] t)).alloc (J #[Z Y 0 0,Z Y 0 0] t)).heap.size=w.heap.size+1+1:=by simp
 refine⟨by simp,?_,?_,⟨?_,?_⟩,⟨?_,?_⟩,⟨?_,?_⟩,⟨?_,?_⟩⟩;{exact(ZS.cell (p:=(Q w.heap.size 0 Y)) (AI _)).trans (by simp)};{exact(ZS.cell (p:=(Q w.heap.size 1 Y)) (AI _)).trans (by simp)};{refine(C.cell (p:=(Q (w.heap.size+1) 0 Y)) (AI _)).trans ?_;rw[<-hz];simp};{refine(C.frozen (p:=(Q (w.heap.size+1) 0 Y)) (AI _)).trans ?_;rw[<-hz];simp};{refine(C.cell (p:=(Q (w.heap.size+1) 1 Y)) (AI _)).trans ?_;rw[<-hz];simp};{refine(C.frozen (p:=(Q (w.heap.size+1) 1 Y)) (AI _)).trans ?_;rw[<-hz];simp};all_goals
  rw[<-f];clear ZS C hz f;generalize (A w (J #[b,c] t)).alloc (J #[Z Y 0 0,Z Y 0 0] t)=W;simp
def lZ (n0:Nat)(f0:Nat->Source)(n1:Nat)(f1:Nat->Target)(t:ByteArray):Int :=
 if ce n0 f0 n1 f1≠0 then 1 else if aw t=ZA then 2 else if (cI (nm0 f0) n0 t || cI (nm1 f1) n1 t)=ZA then 4 else 0
def jy (n0:Nat)(f0:Nat->Source)(n1:Nat)(f1:Nat->Target)(t:ByteArray):List Source:=if lZ n0 f0 n1 f1 t=0 then bY f0 t n0 else []
def mc (n0:Nat)(f0:Nat->Source)(n1:Nat)(f1:Nat->Target)(t:ByteArray):List Target:=if lZ n0 f0 n1 f1 t=0 then keepT f1 t n1 else []
theorem zL{p:Nat->Bool}(h:dH p n=ZA)(hi:i<n):p i=ZA:=by
 cases e:p i with
 |false=>rfl
 |true=>rw[lQ hi e] at h;cases h
theorem me{f0:Nat->Source}{f1:Nat->Target}(h:ce n0 f0 n1 f1=0):dT (nm0 f0) n0=ZG/\dT (nm1 f1) n1=ZG/\∀i,i<n1->1<=(f1 i).f:=by
 unfold ce at h;split at h;· omega
 split at h;· omega
 split at h;· omega
 split at h;· omega
 split at h;· omega
 split at h;· omega
 split at h;· omega
 split at h;· omega
 rename_i h3 h4 _ _ f;refine⟨by simpa using h3,by simpa using h4,λi hi=>?_⟩;have b:=zL (by simpa using f) hi;have c:valid (f1 i).H (f1 i).f=ZG:=by simpa[fc] using b
 have:=(bP c).2.1;omega
theorem gN{base':Nat}{v:ZC}{R:List TR}(h:TRow w b v R)(hb:base'<=b):TRow w base' v R:=by refine⟨aB h.i hb,λr c=>?_,h.up⟩;obtain⟨h1,h2,h3,h4⟩:=h.H r c;exact⟨h1,h2,h3,by omega⟩
structure Pair (w:M)(h:Nat)(p0 p1:ZC):Prop where
 lt:h+1<w.heap.size
 a0:w.cell? (Q h 0 Y)=T p0
 a1:w.cell? (Q h 1 Y)=T p1
 r0:w.cell? (Q (h+1) 0 Y)=T (Z Y 0 0)/\w.frozen? (Q (h+1) 0 Y)=ZA
 r1:w.cell? (Q (h+1) 1 Y)=T (Z Y 0 0)/\w.frozen? (Q (h+1) 1 Y)=ZA
theorem Pair.lt'{h:Nat}{c:ZC}(b:Pair w h c f):h+2<=w.heap.size:=b.lt
theorem Pair.aa{g:M}{h:Nat}(b:Pair w h j l)(hb:Below B w g)(hB:h+2<=B):Pair g h j l:=by have c:∀k o,k<B->g.cell? (Q k o Y)=w.cell? (Q k o Y):=λk o i=>hb.cell (p:=(Q k o Y)) i;have f:∀k o,k<B->g.frozen? (Q k o Y)=w.frozen? (Q k o Y):=λk o i=>hb.frozen (p:=(Q k o Y)) i;exact⟨lj b.lt hb.size,(c _ _ (by omega)).trans b.a0,(c _ _ (by omega)).trans b.a1,⟨(c _ _ (by omega)).trans b.r0.1,(f _ _ (by omega)).trans b.r0.2⟩,⟨(c _ _ (by omega)).trans b.r1.1,(f _ _ (by omega)).trans b.r1.2⟩⟩
theorem uJ (w:M)(b c:ZC)(t:ZI):Pair ((A w (J #[b,c] t)).alloc (J #[Z Y 0 0,Z Y 0 0] t)) w.heap.size b c:=by
 have ZS:Below (w.heap.size+1) (A w (J #[b,c] t)) ((A w (J #[b,c] t)).alloc (J #[Z Y 0 0,Z Y 0 0] t)):=br.alloc (by simp) _;have hz:(A w (J #[b,c] t)).heap.size=w.heap.size+1:=by simp
 refine⟨by simp,(ZS.cell (p:=(Q w.heap.size 0 Y)) (AI _)).trans (by simp),(ZS.cell (p:=(Q w.heap.size 1 Y)) (AI _)).trans (by simp),⟨?_,?_⟩,⟨?_,?_⟩⟩;all_goals
  rw[<-hz];clear ZS hz;generalize A w (J #[b,c] t)=W;simp
theorem uK (b off n0 c0:Nat)(a1:Option Addr)(n1 c1:Nat)(f0:Nat->Source)(t:ByteArray)(w:M)(hn0:(n0:Int)<=1048576)(j:RowSource w b off n0 f0):Calls Tryz.prog 51 #[ZH #[Z (T (Q b off Y)) n0 c0,Z a1 n1 c1],U t] w λe p=>∃r:Int,e=ZF (N I r)/\decide (0<=r)=cI (nm0 f0) n0 t/\Below w.heap.size w p:=by
 obtain⟨W,f⟩:∃W:M,A w (J #[Z (T (Q b off Y)) n0 c0,Z a1 n1 c1] 27)=W:=⟨_,rfl⟩
 obtain⟨m,-,-⟩:=nb1 f;have c:=ae f;clear f;have o:=ae (j.aa m ly);have k1:W.cell? (Q w.heap.size 0 Y)=T (Z (T (Q b off Y)) n0 c0):=by rw[<-c.out];simp
 clear j;go_enter func51,ntmps51;go_wp2;rw[c.out];clear c;go_loop [5] (λi=>∃k:Nat,k<=n0/\i=N I k/\Hid (cI (nm0 f0) k t=ZA)) (λi=>n0 - (intOf i).toNat);case atStart=>exact⟨0,by omega,rfl,rfl⟩
 case round =>
  obtain⟨k,hk,rfl,n⟩:=hrel;by_cases h:k<n0
  ·obtain⟨d0,d1⟩:=o.2 k h;cases hb:((f0 k).e.toList == t.toList) with
   |true =>have l:=ae hb;go_wp2;go_ret;exact⟨k,rfl,by rw[mT (g:=nm0 f0) h l.out];simp,m.out⟩
   |false =>have l:=ae hb;go_wp2;exact⟨⟨k+1,by omega,by go_num,by show cI (nm0 f0) (k+1) t=ZA;rw[kf,n.out];exact l⟩,by simp[intOf];omega⟩
  ·have e:k=n0:=by omega
   subst e;go_wp2;go_ret;exact⟨-1,rfl,by rw[n.out];rfl,m⟩
theorem uL (a0:Option Addr)(c0:Nat)(a1:Option Addr)(n1 c1:Nat)(g:Nat->ByteArray)(t:ByteArray)(w:M):Calls Tryz.prog 51 #[ZH #[Z a0 0 c0,Z a1 n1 c1],U t] w λe b=>∃r:Int,e=ZF (N I r)/\decide (0<=r)=cI g 0 t/\Below w.heap.size w b:=by
 have c:=ae ((q9 w).alloc ly (J #[Z a0 0 c0,Z a1 n1 c1] 27));go_enter func51,ntmps51;go_wp2;go_loop [5] (λi=>i=N I 0) (λ_=>0);case atStart=>rfl
 case round =>subst hrel;go_wp2;go_ret;exact⟨-1,rfl,by rw[rY];rfl,c⟩
theorem uM (a0:Option Addr)(n0 c0:Nat)(a1:Option Addr)(n1 c1:Nat)(f0:Nat->Source)(t:ByteArray)(w:M)(hn0:(n0:Int)<=1048576)(c:SlSource w a0 n0 f0):Calls Tryz.prog 51 #[ZH #[Z a0 n0 c0,Z a1 n1 c1],U t] w λe f=>∃r:Int,e=ZF (N I r)/\decide (0<=r)=cI (nm0 f0) n0 t/\Below w.heap.size w f:=by
 rcases c with rfl|⟨b,off,rfl,g⟩
 {exact uL a0 c0 a1 n1 c1 (nm0 f0) t w};{exact uK b off n0 c0 a1 n1 c1 f0 t w hn0 g}
def dfS:Source:=⟨⟨#[]⟩,⟨#[]⟩⟩
def dfT:Target:=⟨⟨#[]⟩,0,λ_=>⟨0,⟨#[]⟩,0⟩⟩
def dfR:TR:=(dfT,0,0)
def dd (L:List Source)(i:Nat):Source:=L.getD i dfS
def b9 (L:List Target)(i:Nat):Target:=L.getD i dfT
theorem yd{L:List Source}(h:w.ownsRow b 142 2 (Z a L.length c) L.length (L.flatMap bK)):SlSource w a L.length (dd L):=by
 by_cases hn:L.length=0;{exact .inl hn}
 ·obtain⟨g,c',e⟩:=fv h (by omega);simp at e;obtain⟨rfl,rfl⟩:=e;refine .inr ⟨g,0,rfl,(dN h).2,λi hi=>?_⟩;have f:L[i]?=T (dd L i):=by rw[dd,IA,gq hi];rfl
  refine⟨?_,?_⟩;{have:=(cP h (j:=i*2) (u:=U (dd L i).e) (by have:=du bK 2 (λ_=>rfl) L i 0 (by omega) _ f;simpa[bK] using this)).1;rwa[show 0+i*2=i*2 by omega]};{have:=(cP h (j:=i*2+1) (u:=U (dd L i).B) (by have:=du bK 2 (λ_=>rfl) L i 1 (by omega) _ f;simpa[bK] using this)).1;rwa[show 0+i*2+1=i*2+1 by omega]}
theorem ye{R:List TR}(hi:i<R.length):∃r,R[i]?=T r/\r∈R:=⟨R[i],gq hi,gz hi⟩
theorem EO{R:List TR}(h:TRow w b (Z a R.length c) R):SlTarget w a R.length (b9 (R.map (·.1))):=by
 by_cases hn:R.length=0;{exact .inl hn}
 ·obtain⟨g,c',e⟩:=fv h.i (by omega);simp at e;obtain⟨rfl,rfl⟩:=e;refine .inr ⟨g,0,rfl,(dN h.i).2,λi hi=>?_⟩;obtain⟨r,f,l⟩:=ye hi;have m:b9 (R.map (·.1)) i=r.1:=by rw[b9,IA,OH,f];rfl
  rw[m];obtain⟨h1,_,_,_⟩:=h.H r l;refine⟨?_,T (Q r.2.1 0 Y),r.2.2,?_,h1.sl⟩;{have:=(cP h.i (j:=i*2) (u:=U r.1.e) (by have:=du bj 2 (λ_=>rfl) R i 0 (by omega) _ f;simpa[bj] using this)).1;rwa[show 0+i*2=i*2 by omega]};{have:=(cP h.i (j:=i*2+1) (u:=Z (T (Q r.2.1 0 Y)) r.1.f r.2.2) (by have:=du bj 2 (λ_=>rfl) R i 1 (by omega) _ f;simpa[bj] using this)).1;rwa[show 0+i*2+1=i*2+1 by omega]}
theorem KU{j:M}{v:ZC}{f:List ZC}{P:Nat->Prop}(h:w.ownsRow b e size v n f)(o:Touch P w j)(m:∀k,v.ownBlock=T k->¬ P k):j.ownsRow b e size v n f:=by
 refine⟨h.1,?_⟩;rcases h.2 with h|⟨g,cap,c,i,p,l,r⟩
 {exact .inl h};{refine .inr ⟨g,cap,c,i,p,(o.block g ?_ (m g (by rw[i];rfl))).trans l,r⟩;exact(eT.1 l).1}
theorem ri:∀a b:List UInt8,decide (0<Lib.compareBytes a b)=Op.bytesLess b a
 |[],[]=>by simp[Lib.compareBytes,Op.bytesLess]
 |[],_::_=>by simp[Lib.compareBytes,Op.bytesLess]
 |_::_,[]=>by simp[Lib.compareBytes,Op.bytesLess]
 |a::x,b::y=>by
  have c:=ri x y;rw[Lib.compareBytes,Op.bytesLess,<-c];by_cases h1:a<b
  ·have h3:¬ b=a:=λe=>by subst e;exact(UInt8.lt_irrefl _ h1)
   have h4:¬ b<a:=λh=>UInt8.lt_irrefl _ (UInt8.lt_trans h1 h);simp[h1,h3,h4]
  ·rw[gM h1]
   by_cases h2:b<a
   ·simp[h2]
   ·have h3:a=b:=UInt8.le_antisymm (VK.1 h2) (VK.1 h1)
    subst h3;simp[h1]
theorem sI{a b:ByteArray}(h:eC b a=ZG):eC a b=ZA/\(a.toList == b.toList)=ZA:=by have h1:=rh a.data.toList b.data.toList;have h2:=pd a.data.toList b.data.toList;have h3:=ri a.data.toList b.data.toList;simp only[eC,BG] at h ⊢;rw[<-h1,<-h2];rw[<-h3] at h;simp at h ⊢;omega
theorem uN{a b:ByteArray}(h:eC b a=ZA):eC a b=ZG∨(eC a b=ZA/\(a.toList == b.toList)=ZG):=by have h1:=rh a.data.toList b.data.toList;have h2:=pd a.data.toList b.data.toList;have h3:=ri a.data.toList b.data.toList;simp only[eC,BG] at h ⊢;rw[<-h1,<-h2];rw[<-h3] at h;simp only[PH,z8] at h ⊢;omega
structure KB (w:M)(b:Nat)(v0 v1:ZC):Prop where
 lt:b<w.heap.size
 c0:w.cell? (Q b 0 Y)=T v0
 c1:w.cell? (Q b 1 Y)=T v1
 z0:w.frozen? (Q b 0 Y)=ZA
 z1:w.frozen? (Q b 1 Y)=ZA
theorem uO (w:M)(b c:ZC)(t:ZI):KB (A w (J #[b,c] t)) w.heap.size b c:=⟨by simp,by simp,by simp,by simp,by simp⟩
def fe (L:List Source)(t:ByteArray):Nat->Bool
 |0=>ZA
 |k+1=>fe L t k || eC t (dd L k).e
def bZ (L:List Source)(x:Source)(t:ByteArray):Nat->List Source
 |0=>[]
 |k+1=>if fe L t k=ZA/\eC t (dd L k).e=ZG then bZ L x t k++[x]++[dd L k] else bZ L x t k++[dd L k]
def rj (L:List Source)(x:Source)(t:ByteArray):List Source:=if fe L t L.length=ZG then bZ L x t L.length else bZ L x t L.length++[x]
theorem sJ (L:List Source)(x:Source)(t:ByteArray)(k:Nat):(bZ L x t k).length<=k+1/\(fe L t k=ZA->(bZ L x t k).length=k):=by
 induction k with
 |zero=>simp[bZ]
 |succ j b =>
  simp only[bZ,fe];cases hd:fe L t j with
  |false =>
   have h1:=b.2 hd;cases hl:eC t (dd L j).e with
   |true=>simp[h1]
   |false=>simp[h1]
  |true =>have h1:=b.1;simp;omega
def pi (n0:Nat)(f0:Nat->Source)(n1:Nat)(f1:Nat->Target)(t tx:ByteArray):Int :=
 if ce n0 f0 n1 f1≠0 then 1 else if aw t=ZA∨2000<(tx.size:Int) then 2 else if 200<=(bY f0 t n0).length+(keepT f1 t n1).length then 3 else 0
def mf (n0:Nat)(f0:Nat->Source)(n1:Nat)(f1:Nat->Target)(t tx:ByteArray):List Source:=if pi n0 f0 n1 f1 t tx=0 then rj (bY f0 t n0) ⟨t,tx⟩ t else []
def pj (n0:Nat)(f0:Nat->Source)(n1:Nat)(f1:Nat->Target)(t tx:ByteArray):List Target:=if pi n0 f0 n1 f1 t tx=0 then keepT f1 t n1 else []
def mg (n0:Nat)(f0:Nat->Source)(n1:Nat)(f1:Nat->Target)(t:ByteArray)(rt:Bool):Int :=
 if ce n0 f0 n1 f1≠0 then 1 else if aw t=ZA∨rt=ZA then 2 else if 200<=(bY f0 t n0).length+(keepT f1 t n1).length then 3 else 0
def fJ (g:Nat->ByteArray)(t:ByteArray):Nat->Bool
 |0=>ZA
 |k+1=>fJ g t k || eC t (g k)
def fg {b:Type}(g:Nat->ByteArray)(F:Nat->b)(x:b)(t:ByteArray):Nat->List b
 |0=>[]
 |k+1=>if fJ g t k=ZA/\eC t (g k)=ZG then fg g F x t k++[x]++[F k] else fg g F x t k++[F k]
def mh {b:Type}(g:Nat->ByteArray)(F:Nat->b)(x:b)(t:ByteArray)(n:Nat):List b:=if fJ g t n=ZG then fg g F x t n else fg g F x t n++[x]
theorem uP{c:Type}(g:Nat->ByteArray)(F:Nat->c)(x:c)(t:ByteArray)(k:Nat):(fg g F x t k).length<=k+1/\(fJ g t k=ZA->(fg g F x t k).length=k):=by
 induction k with
 |zero=>simp[fg]
 |succ j b =>
  simp only[fg,fJ];cases hd:fJ g t j with
  |false =>
   have h1:=b.2 hd;cases hl:eC t (g j) with
   |true=>simp[h1]
   |false=>simp[h1]
  |true =>have h1:=b.1;simp;omega
theorem uQ{b f:Type}(p:b->f)(g:Nat->ByteArray)(F:Nat->b)(x:b)(t:ByteArray)(k:Nat):(fg g F x t k).map p=fg g (λi=>p (F i)) (p x) t k:=by
 induction k with
 |zero=>rfl
 |succ j c =>simp only[fg];split<;>simp[c]
theorem EQ{b c:Type}(p:b->c)(g:Nat->ByteArray)(F:Nat->b)(x:b)(t:ByteArray)(n:Nat):(mh g F x t n).map p=mh g (λi=>p (F i)) (p x) t n:=by
 unfold mh;split;{exact uQ p g F x t n};{rw[DN,uQ];rfl}
theorem yg{L:List Target}(h:i<L.length):b9 L i=L[i]:=by rw[b9,IA,gq h];rfl
def uR (K:List Target)(x:Target)(t:ByteArray):List Target:=mh (nm1 (b9 K)) (λj=>K.getD j dfT) x t K.length
