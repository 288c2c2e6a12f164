import Derived.Test.YtoddkejemcbkmaaGreatDoorRA
import Derived.Test.YtoddkejemcbkmaaGreatDoorSP
import Derived.Test.YtoddkejemcbkmaaGreatDoorRO
set_option maxHeartbeats 1000000
open Go renaming Addr.mk->Q,Value.slice->Z,Value.string->U,Value.int->J,Obj.cells->N,IntKind.i64->I,World->M,Value->ZC,TypeId->ZH,Ending.returned->ZF,World.alloc->A
open Option renaming none->Y,some->T
open Bool renaming false->ZA,true->ZG
namespace Go.Proofs.YtoddkejemcbkmaaGreatDoor.Vp
open RowKit Go.Sort
variable {w:M}{b n h c size g B i off n0 n1:Nat}{t:ByteArray}{e:ZH}{j f l:ZC}{a:Option Addr}
theorem qC:∀a b:List UInt8,decide (Lib.compareBytes a b<0)=Op.bytesLess a b
 |[],[]=>by simp[Lib.compareBytes,Op.bytesLess]
 |[],_::_=>by simp[Lib.compareBytes,Op.bytesLess]
 |_::_,[]=>by simp[Lib.compareBytes,Op.bytesLess]
 |a::x,b::y=>by
  have c:=qC x y;rw[Lib.compareBytes,Op.bytesLess,<-c];by_cases h1:a<b
  ·simp[h1]
  ·rw[nD h1]
   by_cases h2:b<a
   ·have h3:¬ a=b:=λe=>by subst e;exact h1 h2
    simp[h1,h2,h3]
   ·have h3:a=b:=UInt8.le_antisymm (TT.1 h2) (TT.1 h1)
    subst h3;simp[h1]
theorem oP:∀a b:List UInt8,decide (Lib.compareBytes a b=0)=(a == b)
 |[],[]=>by simp[Lib.compareBytes]
 |[],_::_=>by simp[Lib.compareBytes]
 |_::_,[]=>by simp[Lib.compareBytes]
 |a::x,b::y=>by
  have c:=oP x y;rw[Lib.compareBytes];by_cases h1:a<b
  ·have h3:¬ a=b:=λe=>by subst e;exact(UInt8.lt_irrefl _ h1)
   simp[h1,h3]
  ·rw[nD h1]
   by_cases h2:b<a
   ·have h3:¬ a=b:=λe=>by subst e;exact h1 h2
    simp[h2,h3]
   ·have h3:a=b:=UInt8.le_antisymm (TT.1 h2) (TT.1 h1)
    subst h3;rw[nD h2,c];simp
def bW (f:Nat->Source)(t:ByteArray)(k:Nat):List Source:=((List.range k).map f).filter λx=>!(x.e.toList == t.toList)
def keepT (f:Nat->Target)(t:ByteArray)(k:Nat):List Target:=((List.range k).map f).filter λx=>!(x.e.toList == t.toList)
theorem yD{f:Nat->Source}{k:Nat}(h:((f k).e.toList == t.toList)=ZG):bW f t (k+1)=bW f t k:=by simp only[bW,MY,BG,TG];simp[h]
theorem yE{f:Nat->Source}{k:Nat}(h:((f k).e.toList == t.toList)=ZA):bW f t (k+1)=bW f t k++[f k]:=by simp only[bW,MY,BG,TG];simp[h]
theorem yF{f:Nat->Target}{k:Nat}(h:((f k).e.toList == t.toList)=ZG):keepT f t (k+1)=keepT f t k:=by simp only[keepT,MY,BG,TG];simp[h]
theorem yG{f:Nat->Target}{k:Nat}(h:((f k).e.toList == t.toList)=ZA):keepT f t (k+1)=keepT f t k++[f k]:=by simp only[keepT,MY,BG,TG];simp[h]
theorem j9 (f:Nat->Source)(t:ByteArray)(k:Nat):(bW f t k).length<=k:=by have:=List.length_filter_le (λx:Source=>!(x.e.toList == t.toList)) ((List.range k).map f);simpa[bW] using this
theorem ke (f:Nat->Target)(t:ByteArray)(k:Nat):(keepT f t k).length<=k:=by have:=List.length_filter_le (λx:Target=>!(x.e.toList == t.toList)) ((List.range k).map f);simpa[keepT] using this
theorem fk{v:ZC}{c:List ZC}(h:w.ownsRow b e size v n c)(hn:0<n):∃g cap,v=Z (T (Q g 0 Y)) n cap:=by
 rcases h.2 with ⟨_,h0⟩|⟨g,cap,cur,rfl,_⟩
 {omega};{exact⟨g,cap,rfl⟩}
theorem aU{v:ZC}{c:List ZC}(h:w.ownsRow b e size v n c):∃a cap,v=Z a n cap:=by
 rcases h.2 with ⟨rfl,rfl⟩|⟨g,cap,cur,rfl,_⟩
 {exact⟨_,_,rfl⟩};{exact⟨_,_,rfl⟩}
theorem dt (w:M)(x y:ZC)(t:ZH):∀j u,[x,y][j]?=T u->(A w (N #[x,y] t)).cell? (((Q w.heap.size 0 Y):Addr).add j)=T u:=by
 intro j u b;rw[addr_add,F6];match j,b with
 |0,b=>simp at b;subst b;simp
 |1,b=>simp at b;subst b;simp
abbrev TR:=Target × Nat × Nat
def bi (r:TR):List ZC:=[U r.1.e,Z (T (Q r.2.1 0 Y)) r.1.f r.2.2]
structure TRow (w:M)(base:Nat)(v:ZC)(R:List TR):Prop where
 i:w.ownsRow base 125 2 v R.length (R.flatMap bi)
 G:∀r∈R,RowIns w r.2.1 0 r.1.f r.1.G/\(∃F,Cells w r.2.1 0 (r.1.f*3) F)/\TypeAt w r.2.1 90/\base<=r.2.1
 up:R.Pairwise λa b=>a.2.1≠b.2.1
theorem TypeAt.block{b:M}(h:TypeAt w g e)(hb:b.heap[g]?=w.heap[g]?):TypeAt b g e:=by obtain⟨c,f⟩:=h;exact⟨c,hb.trans f⟩
theorem RowIns.block{b:M}{f:Nat->Ins}(h:RowIns w g off n f)(hz:w.heap.size<=b.heap.size)(hb:b.heap[g]?=w.heap[g]?):RowIns b g off n f:=by refine⟨lj h.1 hz,λi hi=>?_⟩;obtain⟨c,h1,h2⟩:=h.2 i hi;exact⟨(cq (a:=(Q g _ Y)) hb).trans c,(cq (a:=(Q g _ Y)) hb).trans h1,(cq (a:=(Q g _ Y)) hb).trans h2⟩
theorem Cells.block{c:M}{m:Nat}{F:Nat->ZC}(h:Cells w b off m F)(hz:w.heap.size<=c.heap.size)(e:c.heap[b]?=w.heap[b]?):Cells c b off m F :=
 ⟨lj h.1 hz,λj f=>⟨(cq (a:=(Q b (off+j) Y)) e).trans (h.2 j f).1,(JN (a:=(Q b (off+j) Y)) e).trans (h.2 j f).2⟩⟩
theorem TRow.aa{f:M}{v:ZC}{R:List TR}(h:TRow w b v R)(hb:Below B w f)(c:w.heap.size<=B):TRow f b v R:=by refine⟨own_below h.i hb c,λr g=>?_,h.up⟩;obtain⟨h1,⟨F,h2⟩,h3,h4⟩:=h.G r g;have e:=hb.block r.2.1 (lj h1.1 c);exact⟨h1.block hb.size e,⟨F,h2.block hb.size e⟩,h3.block e,h4⟩
theorem TRow.set{X j:Nat}{v:ZC}{R:List TR}(h:TRow w b v R)(hX:X<b)(u:ZC):TRow (w.setCell (Q X j Y) u) b v R:=by refine⟨aP h.i hX u,λr c=>?_,h.up⟩;obtain⟨h1,⟨F,h2⟩,h3,h4⟩:=h.G r c;have e:(w.setCell (Q X j Y) u).heap[r.2.1]?=w.heap[r.2.1]?:=qh _ _ _ _ (by simp;omega);exact⟨h1.block (by simp) e,⟨F,h2.block (by simp) e⟩,h3.block e,h4⟩
theorem dd (w:M)(b:Nat):TRow w b (Z Y 0 0) []:=⟨AT _ _ _ _,λr c=>absurd c (by simp),List.Pairwise.nil⟩
theorem TRow.type{v:ZC}{R:List TR}(h:TRow w c v R):∀k,v.ownBlock=T k->TypeAt w k 125:=by
 intro k b;rcases h.i.2 with ⟨rfl,_⟩|⟨g,cap,f,rfl,_,i,_⟩
 {simp[Value.ownBlock] at b};{simp[Value.ownBlock] at b;subst b;exact⟨f,i⟩}
theorem TRow.more{m q:M}{f:Nat}{v u:ZC}{R:List TR}{x:Target}(h:TRow w f v R)(hb:Below w.heap.size w m)(hg:w.heap.size<=g)(l:f<=g)
  (t:m.ownsRow f 90 3 (Z (T (Q g 0 Y)) x.f c) x.f (bH x.G x.f)) (p:q.ownsRow f 125 2 u (R.length+1) (R.flatMap bi++bi (x,g,c))) (i:m.grownBy q v.ownBlock):TRow q f u (R++[(x,g,c)]):=by
 have n:∀k,TypeAt m k 90->T k≠v.ownBlock:=λk ZR e=>by have z:=(h.aa hb ly).type k e.symm;exact iw ZR z (by decide) rfl
 have s:∀r∈R,r.2.1<w.heap.size:=λr j=>(h.G r j).1.1;refine⟨by simpa using p,λr j=>?_,?_⟩;{rcases p8.1 j with j|j;{obtain⟨h1,⟨F,h2⟩,h3,h4⟩:=(h.aa hb ly).G r j;have e:=i.block r.2.1 h1.1 (n _ h3);exact⟨h1.block i.size e,⟨F,h2.block i.size e⟩,h3.block e,h4⟩};{simp at j;subst j;obtain⟨h1,F,h2⟩:=nC t;have h3:=lJ t;have e:=i.block g h1.1 (n _ h3);exact⟨h1.block i.size e,⟨F,h2.block i.size e⟩,h3.block e,l⟩}};{rw[NI];refine⟨h.up,by simp,λa y b o=>?_⟩;simp at o;subst o;have:=s a y;show a.2.1≠g;omega}
theorem Az{b0 r p:Nat}{h l:ZH}{b:ZC}{t q:List ZC}(s:w.ownsRow b0 h n b n0 t)(h1:w.ownsRow r l p j n1 q)(f:h≠l):b.ownBlock=Y∨b.ownBlock≠j.ownBlock:=by
 rcases s.2 with ⟨rfl,_⟩|⟨g,cap,m,rfl,_,o,_⟩
 {exact .inl rfl}
 ·right;rcases h1.2 with ⟨rfl,_⟩|⟨g',cap',c,rfl,_,i,_⟩
  {simp[Value.ownBlock]};{simp only[Value.ownBlock,ne_eq,MU];exact iw ⟨m,o⟩ ⟨c,i⟩ f}
structure Boxes (w:M)(h:Nat)(p0 p1 v0 v1:ZC):Prop where
 lt:h+2<w.heap.size
 a0:w.cell? (Q h 0 Y)=T p0
 a1:w.cell? (Q h 1 Y)=T p1
 r0:w.cell? (Q (h+1) 0 Y)=T (Z Y 0 0)/\w.frozen? (Q (h+1) 0 Y)=ZA
 r1:w.cell? (Q (h+1) 1 Y)=T (Z Y 0 0)/\w.frozen? (Q (h+1) 1 Y)=ZA
 o0:w.cell? (Q (h+1+1) 0 Y)=T v0/\w.frozen? (Q (h+1+1) 0 Y)=ZA
 o1:w.cell? (Q (h+1+1) 1 Y)=T v1/\w.frozen? (Q (h+1+1) 1 Y)=ZA
theorem Boxes.aa{g:M}{m n:ZC}(b:Boxes w h m l j n)(hb:Below B w g)(hB:h+3<=B):Boxes g h m l j n:=by have c:∀k o,k<B->g.cell? (Q k o Y)=w.cell? (Q k o Y):=λk o i=>hb.cell (p:=(Q k o Y)) i;have f:∀k o,k<B->g.frozen? (Q k o Y)=w.frozen? (Q k o Y):=λk o i=>hb.frozen (p:=(Q k o Y)) i;exact⟨lj b.lt hb.size,(c _ _ (by omega)).trans b.a0,(c _ _ (by omega)).trans b.a1,⟨(c _ _ (by omega)).trans b.r0.1,(f _ _ (by omega)).trans b.r0.2⟩,⟨(c _ _ (by omega)).trans b.r1.1,(f _ _ (by omega)).trans b.r1.2⟩,⟨(c _ _ (by omega)).trans b.o0.1,(f _ _ (by omega)).trans b.o0.2⟩,⟨(c _ _ (by omega)).trans b.o1.1,(f _ _ (by omega)).trans b.o1.2⟩⟩
theorem Boxes.set0{c i g:ZC}(b:Boxes w h f c i g)(u:ZC):Boxes (w.setCell (Q (h+1+1) 0 Y) u) h f c u g:=by have e:∀k o,k≠h+1+1->(w.setCell (Q (h+1+1) 0 Y) u).cell? (Q k o Y)=w.cell? (Q k o Y):=λk o j=>cell_far _ _ _ _ (by simpa using λe=>j e.symm);exact⟨by simpa using b.lt,(e _ _ (by omega)).trans b.a0,(e _ _ (by omega)).trans b.a1,⟨(e _ _ (by omega)).trans b.r0.1,by simpa using b.r0.2⟩,⟨(e _ _ (by omega)).trans b.r1.1,by simpa using b.r1.2⟩,⟨DN _ _ _ (by rw[b.o0.1];rfl),by simpa using b.o0.2⟩,⟨(sq _ _ _ _ (by simp)).trans b.o1.1,by simpa using b.o1.2⟩⟩
theorem Boxes.set1{g c:ZC}(b:Boxes w h g f c j)(u:ZC):Boxes (w.setCell (Q (h+1+1) 1 Y) u) h g f c u:=by have e:∀k o,k≠h+1+1->(w.setCell (Q (h+1+1) 1 Y) u).cell? (Q k o Y)=w.cell? (Q k o Y):=λk o i=>cell_far _ _ _ _ (by simpa using λe=>i e.symm);exact⟨by simpa using b.lt,(e _ _ (by omega)).trans b.a0,(e _ _ (by omega)).trans b.a1,⟨(e _ _ (by omega)).trans b.r0.1,by simpa using b.r0.2⟩,⟨(e _ _ (by omega)).trans b.r1.1,by simpa using b.r1.2⟩,⟨(sq _ _ _ _ (by simp)).trans b.o0.1,by simpa using b.o0.2⟩,⟨DN _ _ _ (by rw[b.o1.1];rfl),by simpa using b.o1.2⟩⟩
theorem AA (w:M)(c b:ZC)(t:ZH):Boxes (((A w (N #[c,b] t)).alloc (N #[Z Y 0 0,Z Y 0 0] t)).alloc (N #[Z Y 0 0,Z Y 0 0] t)) w.heap.size c b (Z Y 0 0) (Z Y 0 0):=by
 have ZR:Below (w.heap.size+1) (A w (N #[c,b] t)) (((A w (N #[c,b] t)).alloc (N #[Z Y 0 0,Z Y 0 0] t)).alloc (N #[Z Y 0 0,Z Y 0 0] t)):=(br.alloc (by simp) _).alloc (by simp) _;have C:Below (w.heap.size+1+1) ((A w (N #[c,b] t)).alloc (N #[Z Y 0 0,Z Y 0 0] t)) (((A w (N #[c,b] t)).alloc (N #[Z Y 0 0,Z Y 0 0] t)).alloc (N #[Z Y 0 0,Z Y 0 0] t)):=br.alloc (by simp) _;have hz:(A w (N #[c,b] t)).heap.size=w.heap.size+1:=by simp
 have f:((A w (N #[c,b] t)).alloc (N #[Z Y 0 0,Z Y 0 0] t)).heap.size=w.heap.size+1+1:=by simp
 refine⟨by simp,?_,?_,⟨?_,?_⟩,⟨?_,?_⟩,⟨?_,?_⟩,⟨?_,?_⟩⟩;{exact(ZR.cell (p:=(Q w.heap.size 0 Y)) (AI _)).trans (by simp)};{exact(ZR.cell (p:=(Q w.heap.size 1 Y)) (AI _)).trans (by simp)};{refine(C.cell (p:=(Q (w.heap.size+1) 0 Y)) (AI _)).trans ?_;rw[<-hz];simp};{refine(C.frozen (p:=(Q (w.heap.size+1) 0 Y)) (AI _)).trans ?_;rw[<-hz];simp};{refine(C.cell (p:=(Q (w.heap.size+1) 1 Y)) (AI _)).trans ?_;rw[<-hz];simp};{refine(C.frozen (p:=(Q (w.heap.size+1) 1 Y)) (AI _)).trans ?_;rw[<-hz];simp};all_goals
  rw[<-f];clear ZR C hz f;generalize (A w (N #[c,b] t)).alloc (N #[Z Y 0 0,Z Y 0 0] t)=W;simp
def lN (n0:Nat)(f0:Nat->Source)(n1:Nat)(f1:Nat->Target)(t:ByteArray):Int :=
 if ce n0 f0 n1 f1≠0 then 1 else if aw t=ZA then 2 else if (cH (nm0 f0) n0 t || cH (nm1 f1) n1 t)=ZA then 4 else 0
def jo (n0:Nat)(f0:Nat->Source)(n1:Nat)(f1:Nat->Target)(t:ByteArray):List Source:=if lN n0 f0 n1 f1 t=0 then bW f0 t n0 else []
def lO (n0:Nat)(f0:Nat->Source)(n1:Nat)(f1:Nat->Target)(t:ByteArray):List Target:=if lN n0 f0 n1 f1 t=0 then keepT f1 t n1 else []
theorem yH{p:Nat->Bool}(h:dE p n=ZA)(hi:i<n):p i=ZA:=by
 cases e:p i with
 |false=>rfl
 |true=>rw[lF hi e] at h;cases h
theorem lP{f0:Nat->Source}{f1:Nat->Target}(h:ce n0 f0 n1 f1=0):dQ (nm0 f0) n0=ZG/\dQ (nm1 f1) n1=ZG/\∀i,i<n1->1<=(f1 i).f:=by
 unfold ce at h;split at h;· omega
 split at h;· omega
 split at h;· omega
 split at h;· omega
 split at h;· omega
 split at h;· omega
 split at h;· omega
 split at h;· omega
 rename_i h3 h4 _ _ f;refine⟨by simpa using h3,by simpa using h4,λi hi=>?_⟩;have c:=yH (by simpa using f) hi;have b:valid (f1 i).G (f1 i).f=ZG:=by simpa[eU] using c
 have:=(bO b).2.1;omega
theorem gG{base':Nat}{v:ZC}{R:List TR}(h:TRow w b v R)(hb:base'<=b):TRow w base' v R:=by refine⟨aC h.i hb,λr c=>?_,h.up⟩;obtain⟨h1,h2,h3,h4⟩:=h.G r c;exact⟨h1,h2,h3,by omega⟩
structure Pair (w:M)(h:Nat)(p0 p1:ZC):Prop where
 lt:h+1<w.heap.size
 a0:w.cell? (Q h 0 Y)=T p0
 a1:w.cell? (Q h 1 Y)=T p1
 r0:w.cell? (Q (h+1) 0 Y)=T (Z Y 0 0)/\w.frozen? (Q (h+1) 0 Y)=ZA
 r1:w.cell? (Q (h+1) 1 Y)=T (Z Y 0 0)/\w.frozen? (Q (h+1) 1 Y)=ZA
theorem Pair.lt'{c:ZC}(b:Pair w h f c):h+2<=w.heap.size:=b.lt
theorem Pair.aa{g:M}(b:Pair w h l j)(hb:Below B w g)(hB:h+2<=B):Pair g h l j:=by have c:∀k o,k<B->g.cell? (Q k o Y)=w.cell? (Q k o Y):=λk o i=>hb.cell (p:=(Q k o Y)) i;have f:∀k o,k<B->g.frozen? (Q k o Y)=w.frozen? (Q k o Y):=λk o i=>hb.frozen (p:=(Q k o Y)) i;exact⟨lj b.lt hb.size,(c _ _ (by omega)).trans b.a0,(c _ _ (by omega)).trans b.a1,⟨(c _ _ (by omega)).trans b.r0.1,(f _ _ (by omega)).trans b.r0.2⟩,⟨(c _ _ (by omega)).trans b.r1.1,(f _ _ (by omega)).trans b.r1.2⟩⟩
theorem tW (w:M)(c b:ZC)(t:ZH):Pair ((A w (N #[c,b] t)).alloc (N #[Z Y 0 0,Z Y 0 0] t)) w.heap.size c b:=by
 have ZR:Below (w.heap.size+1) (A w (N #[c,b] t)) ((A w (N #[c,b] t)).alloc (N #[Z Y 0 0,Z Y 0 0] t)):=br.alloc (by simp) _;have hz:(A w (N #[c,b] t)).heap.size=w.heap.size+1:=by simp
 refine⟨by simp,(ZR.cell (p:=(Q w.heap.size 0 Y)) (AI _)).trans (by simp),(ZR.cell (p:=(Q w.heap.size 1 Y)) (AI _)).trans (by simp),⟨?_,?_⟩,⟨?_,?_⟩⟩;all_goals
  rw[<-hz];clear ZR hz;generalize A w (N #[c,b] t)=W;simp
theorem tX (b off n0 c0:Nat)(a1:Option Addr)(n1 c1:Nat)(f0:Nat->Source)(t:ByteArray)(w:M)(hn0:(n0:Int)<=1048576)(h:RowSource w b off n0 f0):Calls Tryz.prog 119 #[.agg #[Z (T (Q b off Y)) n0 c0,Z a1 n1 c1],U t] w λe p=>∃r:Int,e=ZF (J I r)/\decide (0<=r)=cH (nm0 f0) n0 t/\Below w.heap.size w p:=by
 obtain⟨W,c⟩:∃W:M,A w (N #[Z (T (Q b off Y)) n0 c0,Z a1 n1 c1] 44)=W:=⟨_,rfl⟩
 obtain⟨m,-,-⟩:=nb1 c;have f:=ae c;clear c;have o:=ae (h.aa m ly);have k1:W.cell? (Q w.heap.size 0 Y)=T (Z (T (Q b off Y)) n0 c0):=by rw[<-f.out];simp
 clear h;go_enter Tryz.func119,VF;go_wp2;rw[f.out];clear f;go_loop [5] (λi=>∃k:Nat,k<=n0/\i=J I k/\Hid (cH (nm0 f0) k t=ZA)) (λi=>n0 - (intOf i).toNat);case atStart=>exact⟨0,by omega,rfl,rfl⟩
 case round =>
  obtain⟨k,hk,rfl,n⟩:=hrel;by_cases j:k<n0
  ·obtain⟨d0,d1⟩:=o.2 k j;cases hb:((f0 k).e.toList == t.toList) with
   |true =>have l:=ae hb;go_wp2;go_ret;exact⟨k,rfl,by rw[mE (g:=nm0 f0) j l.out];simp,m.out⟩
   |false =>have l:=ae hb;go_wp2;exact⟨⟨k+1,by omega,by go_num,by show cH (nm0 f0) (k+1) t=ZA;rw[jX,n.out];exact l⟩,by simp[intOf];omega⟩
  ·have e:k=n0:=by omega
   subst e;go_wp2;go_ret;exact⟨-1,rfl,by rw[n.out];rfl,m⟩
theorem tY (a0:Option Addr)(c0:Nat)(a1:Option Addr)(n1 c1:Nat)(g:Nat->ByteArray)(t:ByteArray)(w:M):Calls Tryz.prog 119 #[.agg #[Z a0 0 c0,Z a1 n1 c1],U t] w λe c=>∃r:Int,e=ZF (J I r)/\decide (0<=r)=cH g 0 t/\Below w.heap.size w c:=by
 have b:=ae ((q9 w).alloc ly (N #[Z a0 0 c0,Z a1 n1 c1] 44));go_enter Tryz.func119,VF;go_wp2;go_loop [5] (λi=>i=J I 0) (λ_=>0);case atStart=>rfl
 case round =>subst hrel;go_wp2;go_ret;exact⟨-1,rfl,by rw[rm];rfl,b⟩
theorem tZ (a0:Option Addr)(n0 c0:Nat)(a1:Option Addr)(n1 c1:Nat)(f0:Nat->Source)(t:ByteArray)(w:M)(hn0:(n0:Int)<=1048576)(c:SlSource w a0 n0 f0):Calls Tryz.prog 119 #[.agg #[Z a0 n0 c0,Z a1 n1 c1],U t] w λe g=>∃r:Int,e=ZF (J I r)/\decide (0<=r)=cH (nm0 f0) n0 t/\Below w.heap.size w g:=by
 rcases c with rfl|⟨b,off,rfl,f⟩
 {exact tY a0 c0 a1 n1 c1 (nm0 f0) t w};{exact tX b off n0 c0 a1 n1 c1 f0 t w hn0 f}
def dfS:Source:=⟨⟨#[]⟩,⟨#[]⟩⟩
def dfT:Target:=⟨⟨#[]⟩,0,λ_=>⟨0,⟨#[]⟩,0⟩⟩
def dfR:TR:=(dfT,0,0)
def da (L:List Source)(i:Nat):Source:=L.getD i dfS
def bY (L:List Target)(i:Nat):Target:=L.getD i dfT
theorem xo{L:List Source}(h:w.ownsRow b 122 2 (Z a L.length c) L.length (L.flatMap bI)):SlSource w a L.length (da L):=by
 by_cases hn:L.length=0;{exact .inl hn}
 ·obtain⟨g,c',e⟩:=fk h (by omega);simp at e;obtain⟨rfl,rfl⟩:=e;refine .inr ⟨g,0,rfl,(dL h).2,λi hi=>?_⟩;have f:L[i]?=T (da L i):=by rw[da,IX,gq hi];rfl
  refine⟨?_,?_⟩;{have:=(cO h (j:=i*2) (u:=U (da L i).e) (by have:=dr bI 2 (λ_=>rfl) L i 0 (by omega) _ f;simpa[bI] using this)).1;rwa[show 0+i*2=i*2 by omega]};{have:=(cO h (j:=i*2+1) (u:=U (da L i).h) (by have:=dr bI 2 (λ_=>rfl) L i 1 (by omega) _ f;simpa[bI] using this)).1;rwa[show 0+i*2+1=i*2+1 by omega]}
theorem xp{R:List TR}(hi:i<R.length):∃r,R[i]?=T r/\r∈R:=⟨R[i],gq hi,gz hi⟩
theorem Dy{f:Nat}{R:List TR}(h:TRow w f (Z a R.length c) R):SlTarget w a R.length (bY (R.map (·.1))):=by
 by_cases hn:R.length=0;{exact .inl hn}
 ·obtain⟨g,c',e⟩:=fk h.i (by omega);simp at e;obtain⟨rfl,rfl⟩:=e;refine .inr ⟨g,0,rfl,(dL h.i).2,λi hi=>?_⟩;obtain⟨r,b,m⟩:=xp hi;have l:bY (R.map (·.1)) i=r.1:=by rw[bY,IX,MK,b];rfl
  rw[l];obtain⟨h1,_,_,_⟩:=h.G r m;refine⟨?_,T (Q r.2.1 0 Y),r.2.2,?_,h1.sl⟩;{have:=(cO h.i (j:=i*2) (u:=U r.1.e) (by have:=dr bi 2 (λ_=>rfl) R i 0 (by omega) _ b;simpa[bi] using this)).1;rwa[show 0+i*2=i*2 by omega]};{have:=(cO h.i (j:=i*2+1) (u:=Z (T (Q r.2.1 0 Y)) r.1.f r.2.2) (by have:=dr bi 2 (λ_=>rfl) R i 1 (by omega) _ b;simpa[bi] using this)).1;rwa[show 0+i*2+1=i*2+1 by omega]}
theorem Jo{l:M}{v:ZC}{c:List ZC}{P:Nat->Prop}(h:w.ownsRow b e size v n c)(p:Touch P w l)(o:∀k,v.ownBlock=T k->¬ P k):l.ownsRow b e size v n c:=by
 refine⟨h.1,?_⟩;rcases h.2 with h|⟨g,cap,i,f,m,j,r⟩
 {exact .inl h};{refine .inr ⟨g,cap,i,f,m,(p.block g ?_ (o g (by rw[f];rfl))).trans j,r⟩;exact(gM.1 j).1}
theorem qD:∀a b:List UInt8,decide (0<Lib.compareBytes a b)=Op.bytesLess b a
 |[],[]=>by simp[Lib.compareBytes,Op.bytesLess]
 |[],_::_=>by simp[Lib.compareBytes,Op.bytesLess]
 |_::_,[]=>by simp[Lib.compareBytes,Op.bytesLess]
 |a::x,b::y=>by
  have c:=qD x y;rw[Lib.compareBytes,Op.bytesLess,<-c];by_cases h1:a<b
  ·have h3:¬ b=a:=λe=>by subst e;exact(UInt8.lt_irrefl _ h1)
   have h4:¬ b<a:=λh=>UInt8.lt_irrefl _ (UInt8.lt_trans h1 h);simp[h1,h3,h4]
  ·rw[nD h1]
   by_cases h2:b<a
   ·simp[h2]
   ·have h3:a=b:=UInt8.le_antisymm (TT.1 h2) (TT.1 h1)
    subst h3;simp[h1]
theorem rM{a b:ByteArray}(h:ez b a=ZG):ez a b=ZA/\(a.toList == b.toList)=ZA:=by have h1:=qC a.data.toList b.data.toList;have h2:=oP a.data.toList b.data.toList;have h3:=qD a.data.toList b.data.toList;simp only[ez,GC] at h ⊢;rw[<-h1,<-h2];rw[<-h3] at h;simp at h ⊢;omega
theorem t6{a b:ByteArray}(h:ez b a=ZA):ez a b=ZG∨(ez a b=ZA/\(a.toList == b.toList)=ZG):=by have h1:=qC a.data.toList b.data.toList;have h2:=oP a.data.toList b.data.toList;have h3:=qD a.data.toList b.data.toList;simp only[ez,GC] at h ⊢;rw[<-h1,<-h2];rw[<-h3] at h;simp only[NF,z8] at h ⊢;omega
structure Je (w:M)(b:Nat)(v0 v1:ZC):Prop where
 lt:b<w.heap.size
 c0:w.cell? (Q b 0 Y)=T v0
 c1:w.cell? (Q b 1 Y)=T v1
 z0:w.frozen? (Q b 0 Y)=ZA
 z1:w.frozen? (Q b 1 Y)=ZA
theorem t8 (w:M)(b c:ZC)(t:ZH):Je (A w (N #[b,c] t)) w.heap.size b c:=⟨by simp,by simp,by simp,by simp,by simp⟩
def eX (L:List Source)(t:ByteArray):Nat->Bool
 |0=>ZA
 |k+1=>eX L t k || ez t (da L k).e
def bX (L:List Source)(x:Source)(t:ByteArray):Nat->List Source
 |0=>[]
 |k+1=>if eX L t k=ZA/\ez t (da L k).e=ZG then bX L x t k++[x]++[da L k] else bX L x t k++[da L k]
def qE (L:List Source)(x:Source)(t:ByteArray):List Source:=if eX L t L.length=ZG then bX L x t L.length else bX L x t L.length++[x]
theorem rN (L:List Source)(x:Source)(t:ByteArray)(k:Nat):(bX L x t k).length<=k+1/\(eX L t k=ZA->(bX L x t k).length=k):=by
 induction k with
 |zero=>simp[bX]
 |succ j b =>
  simp only[bX,eX];cases hd:eX L t j with
  |false =>
   have h1:=b.2 hd;cases hl:ez t (da L j).e with
   |true=>simp[h1]
   |false=>simp[h1]
  |true =>have h1:=b.1;simp;omega
def oQ (n0:Nat)(f0:Nat->Source)(n1:Nat)(f1:Nat->Target)(t tx:ByteArray):Int :=
 if ce n0 f0 n1 f1≠0 then 1 else if aw t=ZA∨2000<(tx.size:Int) then 2 else if 200<=(bW f0 t n0).length+(keepT f1 t n1).length then 3 else 0
def lQ (n0:Nat)(f0:Nat->Source)(n1:Nat)(f1:Nat->Target)(t tx:ByteArray):List Source:=if oQ n0 f0 n1 f1 t tx=0 then qE (bW f0 t n0) ⟨t,tx⟩ t else []
def oR (n0:Nat)(f0:Nat->Source)(n1:Nat)(f1:Nat->Target)(t tx:ByteArray):List Target:=if oQ n0 f0 n1 f1 t tx=0 then keepT f1 t n1 else []
def lR (n0:Nat)(f0:Nat->Source)(n1:Nat)(f1:Nat->Target)(t:ByteArray)(rt:Bool):Int :=
 if ce n0 f0 n1 f1≠0 then 1 else if aw t=ZA∨rt=ZA then 2 else if 200<=(bW f0 t n0).length+(keepT f1 t n1).length then 3 else 0
def fC (g:Nat->ByteArray)(t:ByteArray):Nat->Bool
 |0=>ZA
 |k+1=>fC g t k || ez t (g k)
def eY {b:Type}(g:Nat->ByteArray)(F:Nat->b)(x:b)(t:ByteArray):Nat->List b
 |0=>[]
 |k+1=>if fC g t k=ZA/\ez t (g k)=ZG then eY g F x t k++[x]++[F k] else eY g F x t k++[F k]
def lS {b:Type}(g:Nat->ByteArray)(F:Nat->b)(x:b)(t:ByteArray)(n:Nat):List b:=if fC g t n=ZG then eY g F x t n else eY g F x t n++[x]
theorem ua{b:Type}(g:Nat->ByteArray)(F:Nat->b)(x:b)(t:ByteArray)(k:Nat):(eY g F x t k).length<=k+1/\(fC g t k=ZA->(eY g F x t k).length=k):=by
 induction k with
 |zero=>simp[eY]
 |succ j c =>
  simp only[eY,fC];cases hd:fC g t j with
  |false =>
   have h1:=c.2 hd;cases hl:ez t (g j) with
   |true=>simp[h1]
   |false=>simp[h1]
  |true =>have h1:=c.1;simp;omega
theorem ub{b c:Type}(p:b->c)(g:Nat->ByteArray)(F:Nat->b)(x:b)(t:ByteArray)(k:Nat):(eY g F x t k).map p=eY g (λi=>p (F i)) (p x) t k:=by
 induction k with
 |zero=>rfl
 |succ j f =>simp only[eY];split<;>simp[f]
theorem Dz{b c:Type}(p:b->c)(g:Nat->ByteArray)(F:Nat->b)(x:b)(t:ByteArray)(n:Nat):(lS g F x t n).map p=lS g (λi=>p (F i)) (p x) t n:=by
 unfold lS;split;{exact ub p g F x t n};{rw[BG,ub];rfl}
theorem xq{L:List Target}(h:i<L.length):bY L i=L[i]:=by rw[bY,IX,gq h];rfl
def uc (K:List Target)(x:Target)(t:ByteArray):List Target:=lS (nm1 (bY K)) (λj=>K.getD j dfT) x t K.length
