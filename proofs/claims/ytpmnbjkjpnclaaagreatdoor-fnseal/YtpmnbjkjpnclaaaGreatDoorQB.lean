import Derived.Test.YtpmnbjkjpnclaaaGreatDoorRB
import Derived.Test.YtpmnbjkjpnclaaaGreatDoorRQ
set_option maxHeartbeats 1000000
open Go renaming Addr.mk->Q,Value.slice->Z,Value.string->Y,Value.int->J,Obj.cells->N,IntKind.i64->I,World->M,Value->ZC,TypeId->ZH,Ending.returned->ZF,World.alloc->A
open Option renaming none->U,some->T
open Bool renaming false->ZA,true->ZG
namespace Go.Proofs.YtpmnbjkjpnclaaaGreatDoor.Vp
open Tryz RowKit Go.Sort
variable {w:M}{b n size g B i off n0 n1:Nat}{t:ByteArray}{e:ZH}{c f l j:ZC}{a:Option Addr}
theorem qY:∀a b:List UInt8,decide (Lib.compareBytes a b<0)=Op.bytesLess a b
 |[],[]=>by simp[Lib.compareBytes,Op.bytesLess]
 |[],_::_=>by simp[Lib.compareBytes,Op.bytesLess]
 |_::_,[]=>by simp[Lib.compareBytes,Op.bytesLess]
 |a::x,b::y=>by
  have c:=qY x y;rw[Lib.compareBytes,Op.bytesLess,<-c];by_cases h1:a<b
  ·simp[h1]
  ·rw[gM h1]
   by_cases h2:b<a
   ·have h3:¬ a=b:=λe=>by subst e;exact h1 h2
    simp[h1,h2,h3]
   ·have h3:a=b:=UInt8.le_antisymm (VC.1 h2) (VC.1 h1)
    subst h3;simp[h1]
theorem o8:∀a b:List UInt8,decide (Lib.compareBytes a b=0)=(a == b)
 |[],[]=>by simp[Lib.compareBytes]
 |[],_::_=>by simp[Lib.compareBytes]
 |_::_,[]=>by simp[Lib.compareBytes]
 |a::x,b::y=>by
  have c:=o8 x y;rw[Lib.compareBytes];by_cases h1:a<b
  ·have h3:¬ a=b:=λe=>by subst e;exact(UInt8.lt_irrefl _ h1)
   simp[h1,h3]
  ·rw[gM h1]
   by_cases h2:b<a
   ·have h3:¬ a=b:=λe=>by subst e;exact h1 h2
    simp[h2,h3]
   ·have h3:a=b:=UInt8.le_antisymm (VC.1 h2) (VC.1 h1)
    subst h3;rw[gM h2,c];simp
def bX (f:Nat->Source)(t:ByteArray)(k:Nat):List Source:=((List.range k).map f).filter λx=>!(x.e.toList == t.toList)
def keepT (f:Nat->Target)(t:ByteArray)(k:Nat):List Target:=((List.range k).map f).filter λx=>!(x.e.toList == t.toList)
theorem zD{f:Nat->Source}{k:Nat}(h:((f k).e.toList == t.toList)=ZG):bX f t (k+1)=bX f t k:=by simp only[bX,OQ,DN,UZ];simp[h]
theorem zE{f:Nat->Source}{k:Nat}(h:((f k).e.toList == t.toList)=ZA):bX f t (k+1)=bX f t k++[f k]:=by simp only[bX,OQ,DN,UZ];simp[h]
theorem zF{f:Nat->Target}{k:Nat}(h:((f k).e.toList == t.toList)=ZG):keepT f t (k+1)=keepT f t k:=by simp only[keepT,OQ,DN,UZ];simp[h]
theorem zG{f:Nat->Target}{k:Nat}(h:((f k).e.toList == t.toList)=ZA):keepT f t (k+1)=keepT f t k++[f k]:=by simp only[keepT,OQ,DN,UZ];simp[h]
theorem kq (f:Nat->Source)(t:ByteArray)(k:Nat):(bX f t k).length<=k:=by have:=List.length_filter_le (λx:Source=>!(x.e.toList == t.toList)) ((List.range k).map f);simpa[bX] using this
theorem ku (f:Nat->Target)(t:ByteArray)(k:Nat):(keepT f t k).length<=k:=by have:=List.length_filter_le (λx:Target=>!(x.e.toList == t.toList)) ((List.range k).map f);simpa[keepT] using this
theorem fu{v:ZC}{c:List ZC}(h:w.ownsRow b e size v n c)(hn:0<n):∃g cap,v=Z (T (Q g 0 U)) n cap:=by
 rcases h.2 with ⟨_,h0⟩|⟨g,cap,cur,rfl,_⟩
 {omega};{exact⟨g,cap,rfl⟩}
theorem aU{v:ZC}{c:List ZC}(h:w.ownsRow b e size v n c):∃a cap,v=Z a n cap:=by
 rcases h.2 with ⟨rfl,rfl⟩|⟨g,cap,cur,rfl,_⟩
 {exact⟨_,_,rfl⟩};{exact⟨_,_,rfl⟩}
theorem du (w:M)(x y:ZC)(t:ZH):∀j u,[x,y][j]?=T u->(A w (N #[x,y] t)).cell? (((Q w.heap.size 0 U):Addr).add j)=T u:=by
 intro j u b;rw[addr_add,FM];match j,b with
 |0,b=>simp at b;subst b;simp
 |1,b=>simp at b;subst b;simp
abbrev TR:=Target × Nat × Nat
def bj (r:TR):List ZC:=[Y r.1.e,Z (T (Q r.2.1 0 U)) r.1.f r.2.2]
structure TRow (w:M)(base:Nat)(v:ZC)(R:List TR):Prop where
 i:w.ownsRow base 146 2 v R.length (R.flatMap bj)
 H:∀r∈R,RowIns w r.2.1 0 r.1.f r.1.H/\(∃F,Cells w r.2.1 0 (r.1.f*3) F)/\TypeAt w r.2.1 151/\base<=r.2.1
 up:R.Pairwise λa b=>a.2.1≠b.2.1
theorem TypeAt.block{b:M}(h:TypeAt w g e)(hb:b.heap[g]?=w.heap[g]?):TypeAt b g e:=by obtain⟨c,f⟩:=h;exact⟨c,hb.trans f⟩
theorem RowIns.block{b:M}{f:Nat->Ins}(h:RowIns w g off n f)(hz:w.heap.size<=b.heap.size)(hb:b.heap[g]?=w.heap[g]?):RowIns b g off n f:=by refine⟨lj h.1 hz,λi hi=>?_⟩;obtain⟨c,h1,h2⟩:=h.2 i hi;exact⟨(cq (a:=(Q g _ U)) hb).trans c,(cq (a:=(Q g _ U)) hb).trans h1,(cq (a:=(Q g _ U)) hb).trans h2⟩
theorem Cells.block{c:M}{m:Nat}{F:Nat->ZC}(h:Cells w b off m F)(hz:w.heap.size<=c.heap.size)(e:c.heap[b]?=w.heap[b]?):Cells c b off m F :=
 ⟨lj h.1 hz,λj f=>⟨(cq (a:=(Q b (off+j) U)) e).trans (h.2 j f).1,(JN (a:=(Q b (off+j) U)) e).trans (h.2 j f).2⟩⟩
theorem TRow.aa{c:M}{v:ZC}{R:List TR}(h:TRow w b v R)(hb:Below B w c)(f:w.heap.size<=B):TRow c b v R:=by refine⟨own_below h.i hb f,λr g=>?_,h.up⟩;obtain⟨h1,⟨F,h2⟩,h3,h4⟩:=h.H r g;have e:=hb.block r.2.1 (lj h1.1 f);exact⟨h1.block hb.size e,⟨F,h2.block hb.size e⟩,h3.block e,h4⟩
theorem TRow.set{X j:Nat}{v:ZC}{R:List TR}(h:TRow w b v R)(hX:X<b)(u:ZC):TRow (w.setCell (Q X j U) u) b v R:=by refine⟨aQ h.i hX u,λr c=>?_,h.up⟩;obtain⟨h1,⟨F,h2⟩,h3,h4⟩:=h.H r c;have e:(w.setCell (Q X j U) u).heap[r.2.1]?=w.heap[r.2.1]?:=qh _ _ _ _ (by simp;omega);exact⟨h1.block (by simp) e,⟨F,h2.block (by simp) e⟩,h3.block e,h4⟩
theorem dh (w:M)(b:Nat):TRow w b (Z U 0 0) []:=⟨A9 _ _ _ _,λr c=>absurd c (by simp),List.Pairwise.nil⟩
theorem TRow.type{v:ZC}{R:List TR}(h:TRow w b v R):∀k,v.ownBlock=T k->TypeAt w k 146:=by
 intro k c;rcases h.i.2 with ⟨rfl,_⟩|⟨g,cap,f,rfl,_,i,_⟩
 {simp[Value.ownBlock] at c};{simp[Value.ownBlock] at c;subst c;exact⟨f,i⟩}
theorem TRow.more{m q:M}{f c:Nat}{v s:ZC}{R:List TR}{x:Target}(h:TRow w f v R)(hb:Below w.heap.size w m)(hg:w.heap.size<=g)(l:f<=g)
  (t:m.ownsRow f 151 3 (Z (T (Q g 0 U)) x.f c) x.f (bJ x.H x.f)) (p:q.ownsRow f 146 2 s (R.length+1) (R.flatMap bj++bj (x,g,c))) (i:m.grownBy q v.ownBlock):TRow q f s (R++[(x,g,c)]):=by
 have n:∀k,TypeAt m k 151->T k≠v.ownBlock:=λk z e=>by have y:=(h.aa hb ly).type k e.symm;exact iC z y (by decide) rfl
 have u:∀r∈R,r.2.1<w.heap.size:=λr j=>(h.H r j).1.1;refine⟨by simpa using p,λr j=>?_,?_⟩;{rcases p8.1 j with j|j;{obtain⟨h1,⟨F,h2⟩,h3,h4⟩:=(h.aa hb ly).H r j;have e:=i.block r.2.1 h1.1 (n _ h3);exact⟨h1.block i.size e,⟨F,h2.block i.size e⟩,h3.block e,h4⟩};{simp at j;subst j;obtain⟨h1,F,h2⟩:=nQ t;have h3:=lT t;have e:=i.block g h1.1 (n _ h3);exact⟨h1.block i.size e,⟨F,h2.block i.size e⟩,h3.block e,l⟩}};{rw[PF];refine⟨h.up,by simp,λa ZR b o=>?_⟩;simp at o;subst o;have:=u a ZR;show a.2.1≠g;omega}
theorem BP{b0 t q:Nat}{l j:ZH}{p r:List ZC}(o:w.ownsRow b0 l n c n0 p)(h1:w.ownsRow t j q f n1 r)(i:l≠j):c.ownBlock=U∨c.ownBlock≠f.ownBlock:=by
 rcases o.2 with ⟨rfl,_⟩|⟨g,cap,h,rfl,_,s,_⟩
 {exact .inl rfl}
 ·right;rcases h1.2 with ⟨rfl,_⟩|⟨g',cap',b,rfl,_,m,_⟩
  {simp[Value.ownBlock]};{simp only[Value.ownBlock,ne_eq,OJ];exact iC ⟨h,s⟩ ⟨b,m⟩ i}
structure Boxes (w:M)(h:Nat)(p0 p1 v0 v1:ZC):Prop where
 lt:h+2<w.heap.size
 a0:w.cell? (Q h 0 U)=T p0
 a1:w.cell? (Q h 1 U)=T p1
 r0:w.cell? (Q (h+1) 0 U)=T (Z U 0 0)/\w.frozen? (Q (h+1) 0 U)=ZA
 r1:w.cell? (Q (h+1) 1 U)=T (Z U 0 0)/\w.frozen? (Q (h+1) 1 U)=ZA
 o0:w.cell? (Q (h+1+1) 0 U)=T v0/\w.frozen? (Q (h+1+1) 0 U)=ZA
 o1:w.cell? (Q (h+1+1) 1 U)=T v1/\w.frozen? (Q (h+1+1) 1 U)=ZA
theorem Boxes.aa{g:M}{h:Nat}{m n:ZC}(b:Boxes w h m n l j)(hb:Below B w g)(hB:h+3<=B):Boxes g h m n l j:=by have c:∀k o,k<B->g.cell? (Q k o U)=w.cell? (Q k o U):=λk o i=>hb.cell (p:=(Q k o U)) i;have f:∀k o,k<B->g.frozen? (Q k o U)=w.frozen? (Q k o U):=λk o i=>hb.frozen (p:=(Q k o U)) i;exact⟨lj b.lt hb.size,(c _ _ (by omega)).trans b.a0,(c _ _ (by omega)).trans b.a1,⟨(c _ _ (by omega)).trans b.r0.1,(f _ _ (by omega)).trans b.r0.2⟩,⟨(c _ _ (by omega)).trans b.r1.1,(f _ _ (by omega)).trans b.r1.2⟩,⟨(c _ _ (by omega)).trans b.o0.1,(f _ _ (by omega)).trans b.o0.2⟩,⟨(c _ _ (by omega)).trans b.o1.1,(f _ _ (by omega)).trans b.o1.2⟩⟩
theorem Boxes.set0{h:Nat}{g i:ZC}(b:Boxes w h f g i c)(u:ZC):Boxes (w.setCell (Q (h+1+1) 0 U) u) h f g u c:=by have e:∀k o,k≠h+1+1->(w.setCell (Q (h+1+1) 0 U) u).cell? (Q k o U)=w.cell? (Q k o U):=λk o j=>cell_far _ _ _ _ (by simpa using λe=>j e.symm);exact⟨by simpa using b.lt,(e _ _ (by omega)).trans b.a0,(e _ _ (by omega)).trans b.a1,⟨(e _ _ (by omega)).trans b.r0.1,by simpa using b.r0.2⟩,⟨(e _ _ (by omega)).trans b.r1.1,by simpa using b.r1.2⟩,⟨CX _ _ _ (by rw[b.o0.1];rfl),by simpa using b.o0.2⟩,⟨(sq _ _ _ _ (by simp)).trans b.o1.1,by simpa using b.o1.2⟩⟩
theorem Boxes.set1{h:Nat}{g i:ZC}(b:Boxes w h f g c i)(u:ZC):Boxes (w.setCell (Q (h+1+1) 1 U) u) h f g c u:=by have e:∀k o,k≠h+1+1->(w.setCell (Q (h+1+1) 1 U) u).cell? (Q k o U)=w.cell? (Q k o U):=λk o j=>cell_far _ _ _ _ (by simpa using λe=>j e.symm);exact⟨by simpa using b.lt,(e _ _ (by omega)).trans b.a0,(e _ _ (by omega)).trans b.a1,⟨(e _ _ (by omega)).trans b.r0.1,by simpa using b.r0.2⟩,⟨(e _ _ (by omega)).trans b.r1.1,by simpa using b.r1.2⟩,⟨(sq _ _ _ _ (by simp)).trans b.o0.1,by simpa using b.o0.2⟩,⟨CX _ _ _ (by rw[b.o1.1];rfl),by simpa using b.o1.2⟩⟩
theorem BR (w:M)(b c:ZC)(t:ZH):Boxes (((A w (N #[b,c] t)).alloc (N #[Z U 0 0,Z U 0 0] t)).alloc (N #[Z U 0 0,Z U 0 0] t)) w.heap.size b c (Z U 0 0) (Z U 0 0):=by
 have ZR:Below (w.heap.size+1) (A w (N #[b,c] t)) (((A w (N #[b,c] t)).alloc (N #[Z U 0 0,Z U 0 0] t)).alloc (N #[Z U 0 0,Z U 0 0] t)):=(br.alloc (by simp) _).alloc (by simp) _;have C:Below (w.heap.size+1+1) ((A w (N #[b,c] t)).alloc (N #[Z U 0 0,Z U 0 0] t)) (((A w (N #[b,c] t)).alloc (N #[Z U 0 0,Z U 0 0] t)).alloc (N #[Z U 0 0,Z U 0 0] t)):=br.alloc (by simp) _;have hz:(A w (N #[b,c] t)).heap.size=w.heap.size+1:=by simp
 have f:((A w (N #[b,c] t)).alloc (N #[Z U 0 0,Z U 0 0] t)).heap.size=w.heap.size+1+1:=by simp
 refine⟨by simp,?_,?_,⟨?_,?_⟩,⟨?_,?_⟩,⟨?_,?_⟩,⟨?_,?_⟩⟩;{exact(ZR.cell (p:=(Q w.heap.size 0 U)) (AP _)).trans (by simp)};{exact(ZR.cell (p:=(Q w.heap.size 1 U)) (AP _)).trans (by simp)};{refine(C.cell (p:=(Q (w.heap.size+1) 0 U)) (AP _)).trans ?_;rw[<-hz];simp};{refine(C.frozen (p:=(Q (w.heap.size+1) 0 U)) (AP _)).trans ?_;rw[<-hz];simp};{refine(C.cell (p:=(Q (w.heap.size+1) 1 U)) (AP _)).trans ?_;rw[<-hz];simp};{refine(C.frozen (p:=(Q (w.heap.size+1) 1 U)) (AP _)).trans ?_;rw[<-hz];simp};all_goals
  rw[<-f];clear ZR C hz f;generalize (A w (N #[b,c] t)).alloc (N #[Z U 0 0,Z U 0 0] t)=W;simp
def lY (n0:Nat)(f0:Nat->Source)(n1:Nat)(f1:Nat->Target)(t:ByteArray):Int :=
 if ce n0 f0 n1 f1≠0 then 1 else if aw t=ZA then 2 else if (cI (nm0 f0) n0 t || cI (nm1 f1) n1 t)=ZA then 4 else 0
def jx (n0:Nat)(f0:Nat->Source)(n1:Nat)(f1:Nat->Target)(t:ByteArray):List Source:=if lY n0 f0 n1 f1 t=0 then bX f0 t n0 else []
def lZ (n0:Nat)(f0:Nat->Source)(n1:Nat)(f1:Nat->Target)(t:ByteArray):List Target:=if lY n0 f0 n1 f1 t=0 then keepT f1 t n1 else []
theorem zH{p:Nat->Bool}(h:dG p n=ZA)(hi:i<n):p i=ZA:=by
 cases e:p i with
 |false=>rfl
 |true=>rw[lP hi e] at h;cases h
theorem ma{f0:Nat->Source}{f1:Nat->Target}(h:ce n0 f0 n1 f1=0):dR (nm0 f0) n0=ZG/\dR (nm1 f1) n1=ZG/\∀i,i<n1->1<=(f1 i).f:=by
 unfold ce at h;split at h;· omega
 split at h;· omega
 split at h;· omega
 split at h;· omega
 split at h;· omega
 split at h;· omega
 split at h;· omega
 split at h;· omega
 rename_i h3 h4 _ _ f;refine⟨by simpa using h3,by simpa using h4,λi hi=>?_⟩;have c:=zH (by simpa using f) hi;have b:valid (f1 i).H (f1 i).f=ZG:=by simpa[eZ] using c
 have:=(bP b).2.1;omega
theorem gK{base':Nat}{v:ZC}{R:List TR}(h:TRow w b v R)(hb:base'<=b):TRow w base' v R:=by refine⟨aB h.i hb,λr c=>?_,h.up⟩;obtain⟨h1,h2,h3,h4⟩:=h.H r c;exact⟨h1,h2,h3,by omega⟩
structure Pair (w:M)(h:Nat)(p0 p1:ZC):Prop where
 lt:h+1<w.heap.size
 a0:w.cell? (Q h 0 U)=T p0
 a1:w.cell? (Q h 1 U)=T p1
 r0:w.cell? (Q (h+1) 0 U)=T (Z U 0 0)/\w.frozen? (Q (h+1) 0 U)=ZA
 r1:w.cell? (Q (h+1) 1 U)=T (Z U 0 0)/\w.frozen? (Q (h+1) 1 U)=ZA
theorem Pair.lt'{h:Nat}(b:Pair w h c f):h+2<=w.heap.size:=b.lt
theorem Pair.aa{g:M}{h:Nat}(b:Pair w h j l)(hb:Below B w g)(hB:h+2<=B):Pair g h j l:=by have c:∀k o,k<B->g.cell? (Q k o U)=w.cell? (Q k o U):=λk o i=>hb.cell (p:=(Q k o U)) i;have f:∀k o,k<B->g.frozen? (Q k o U)=w.frozen? (Q k o U):=λk o i=>hb.frozen (p:=(Q k o U)) i;exact⟨lj b.lt hb.size,(c _ _ (by omega)).trans b.a0,(c _ _ (by omega)).trans b.a1,⟨(c _ _ (by omega)).trans b.r0.1,(f _ _ (by omega)).trans b.r0.2⟩,⟨(c _ _ (by omega)).trans b.r1.1,(f _ _ (by omega)).trans b.r1.2⟩⟩
theorem uG (w:M)(b c:ZC)(t:ZH):Pair ((A w (N #[b,c] t)).alloc (N #[Z U 0 0,Z U 0 0] t)) w.heap.size b c:=by
 have ZR:Below (w.heap.size+1) (A w (N #[b,c] t)) ((A w (N #[b,c] t)).alloc (N #[Z U 0 0,Z U 0 0] t)):=br.alloc (by simp) _;have hz:(A w (N #[b,c] t)).heap.size=w.heap.size+1:=by simp
 refine⟨by simp,(ZR.cell (p:=(Q w.heap.size 0 U)) (AP _)).trans (by simp),(ZR.cell (p:=(Q w.heap.size 1 U)) (AP _)).trans (by simp),⟨?_,?_⟩,⟨?_,?_⟩⟩;all_goals
  rw[<-hz];clear ZR hz;generalize A w (N #[b,c] t)=W;simp
theorem uH (b off n0 c0:Nat)(a1:Option Addr)(n1 c1:Nat)(f0:Nat->Source)(t:ByteArray)(w:M)(hn0:(n0:Int)<=1048576)(h:RowSource w b off n0 f0):Calls Tryz.prog 51 #[.agg #[Z (T (Q b off U)) n0 c0,Z a1 n1 c1],Y t] w λe o=>∃r:Int,e=ZF (J I r)/\decide (0<=r)=cI (nm0 f0) n0 t/\Below w.heap.size w o:=by
 obtain⟨W,c⟩:∃W:M,A w (N #[Z (T (Q b off U)) n0 c0,Z a1 n1 c1] 27)=W:=⟨_,rfl⟩
 obtain⟨l,-,-⟩:=nb1 c;have f:=ae c;clear c;have p:=ae (h.aa l ly);have k1:W.cell? (Q w.heap.size 0 U)=T (Z (T (Q b off U)) n0 c0):=by rw[<-f.out];simp
 clear h;go_enter func51,ntmps51;go_wp2;rw[f.out];clear f;go_loop [5] (λi=>∃k:Nat,k<=n0/\i=J I k/\Hid (cI (nm0 f0) k t=ZA)) (λi=>n0 - (intOf i).toNat);case atStart=>exact⟨0,by omega,rfl,rfl⟩
 case round =>
  obtain⟨k,hk,rfl,n⟩:=hrel;by_cases j:k<n0
  ·obtain⟨d0,d1⟩:=p.2 k j;cases hb:((f0 k).e.toList == t.toList) with
   |true =>have m:=ae hb;go_wp2;go_ret;exact⟨k,rfl,by rw[mQ (g:=nm0 f0) j m.out];simp,l.out⟩
   |false =>have m:=ae hb;go_wp2;exact⟨⟨k+1,by omega,by go_num,by show cI (nm0 f0) (k+1) t=ZA;rw[ke,n.out];exact m⟩,by simp[intOf];omega⟩
  ·have e:k=n0:=by omega
   subst e;go_wp2;go_ret;exact⟨-1,rfl,by rw[n.out];rfl,l⟩
theorem uI (a0:Option Addr)(c0:Nat)(a1:Option Addr)(n1 c1:Nat)(g:Nat->ByteArray)(t:ByteArray)(w:M):Calls Tryz.prog 51 #[.agg #[Z a0 0 c0,Z a1 n1 c1],Y t] w λe b=>∃r:Int,e=ZF (J I r)/\decide (0<=r)=cI g 0 t/\Below w.heap.size w b:=by
 have c:=ae ((q9 w).alloc ly (N #[Z a0 0 c0,Z a1 n1 c1] 27));go_enter func51,ntmps51;go_wp2;go_loop [5] (λi=>i=J I 0) (λ_=>0);case atStart=>rfl
 case round =>subst hrel;go_wp2;go_ret;exact⟨-1,rfl,by rw[rV];rfl,c⟩
theorem uJ (a0:Option Addr)(n0 c0:Nat)(a1:Option Addr)(n1 c1:Nat)(f0:Nat->Source)(t:ByteArray)(w:M)(hn0:(n0:Int)<=1048576)(c:SlSource w a0 n0 f0):Calls Tryz.prog 51 #[.agg #[Z a0 n0 c0,Z a1 n1 c1],Y t] w λe f=>∃r:Int,e=ZF (J I r)/\decide (0<=r)=cI (nm0 f0) n0 t/\Below w.heap.size w f:=by
 rcases c with rfl|⟨b,off,rfl,g⟩
 {exact uI a0 c0 a1 n1 c1 (nm0 f0) t w};{exact uH b off n0 c0 a1 n1 c1 f0 t w hn0 g}
def dfS:Source:=⟨⟨#[]⟩,⟨#[]⟩⟩
def dfT:Target:=⟨⟨#[]⟩,0,λ_=>⟨0,⟨#[]⟩,0⟩⟩
def dfR:TR:=(dfT,0,0)
def dd (L:List Source)(i:Nat):Source:=L.getD i dfS
def bZ (L:List Target)(i:Nat):Target:=L.getD i dfT
theorem x9{c:Nat}{L:List Source}(h:w.ownsRow b 142 2 (Z a L.length c) L.length (L.flatMap bK)):SlSource w a L.length (dd L):=by
 by_cases hn:L.length=0;{exact .inl hn}
 ·obtain⟨g,c',e⟩:=fu h (by omega);simp at e;obtain⟨rfl,rfl⟩:=e;refine .inr ⟨g,0,rfl,(dM h).2,λi hi=>?_⟩;have f:L[i]?=T (dd L i):=by rw[dd,IA,gq hi];rfl
  refine⟨?_,?_⟩;{have:=(cP h (j:=i*2) (u:=Y (dd L i).e) (by have:=dt bK 2 (λ_=>rfl) L i 0 (by omega) _ f;simpa[bK] using this)).1;rwa[show 0+i*2=i*2 by omega]};{have:=(cP h (j:=i*2+1) (u:=Y (dd L i).B) (by have:=dt bK 2 (λ_=>rfl) L i 1 (by omega) _ f;simpa[bK] using this)).1;rwa[show 0+i*2+1=i*2+1 by omega]}
theorem ya{R:List TR}(hi:i<R.length):∃r,R[i]?=T r/\r∈R:=⟨R[i],gq hi,gz hi⟩
theorem EE{c:Nat}{R:List TR}(h:TRow w b (Z a R.length c) R):SlTarget w a R.length (bZ (R.map (·.1))):=by
 by_cases hn:R.length=0;{exact .inl hn}
 ·obtain⟨g,c',e⟩:=fu h.i (by omega);simp at e;obtain⟨rfl,rfl⟩:=e;refine .inr ⟨g,0,rfl,(dM h.i).2,λi hi=>?_⟩;obtain⟨r,f,m⟩:=ya hi;have l:bZ (R.map (·.1)) i=r.1:=by rw[bZ,IA,NZ,f];rfl
  rw[l];obtain⟨h1,_,_,_⟩:=h.H r m;refine⟨?_,T (Q r.2.1 0 U),r.2.2,?_,h1.sl⟩;{have:=(cP h.i (j:=i*2) (u:=Y r.1.e) (by have:=dt bj 2 (λ_=>rfl) R i 0 (by omega) _ f;simpa[bj] using this)).1;rwa[show 0+i*2=i*2 by omega]};{have:=(cP h.i (j:=i*2+1) (u:=Z (T (Q r.2.1 0 U)) r.1.f r.2.2) (by have:=dt bj 2 (λ_=>rfl) R i 1 (by omega) _ f;simpa[bj] using this)).1;rwa[show 0+i*2+1=i*2+1 by omega]}
theorem Ks{c:M}{v:ZC}{j:List ZC}{P:Nat->Prop}(h:w.ownsRow b e size v n j)(m:Touch P w c)(p:∀k,v.ownBlock=T k->¬ P k):c.ownsRow b e size v n j:=by
 refine⟨h.1,?_⟩;rcases h.2 with h|⟨g,cap,f,i,o,l,r⟩
 {exact .inl h};{refine .inr ⟨g,cap,f,i,o,(m.block g ?_ (p g (by rw[i];rfl))).trans l,r⟩;exact(eT.1 l).1}
theorem qZ:∀a b:List UInt8,decide (0<Lib.compareBytes a b)=Op.bytesLess b a
 |[],[]=>by simp[Lib.compareBytes,Op.bytesLess]
 |[],_::_=>by simp[Lib.compareBytes,Op.bytesLess]
 |_::_,[]=>by simp[Lib.compareBytes,Op.bytesLess]
 |a::x,b::y=>by
  have c:=qZ x y;rw[Lib.compareBytes,Op.bytesLess,<-c];by_cases h1:a<b
  ·have h3:¬ b=a:=λe=>by subst e;exact(UInt8.lt_irrefl _ h1)
   have h4:¬ b<a:=λh=>UInt8.lt_irrefl _ (UInt8.lt_trans h1 h);simp[h1,h3,h4]
  ·rw[gM h1]
   by_cases h2:b<a
   ·simp[h2]
   ·have h3:a=b:=UInt8.le_antisymm (VC.1 h2) (VC.1 h1)
    subst h3;simp[h1]
theorem sF{a b:ByteArray}(h:eB b a=ZG):eB a b=ZA/\(a.toList == b.toList)=ZA:=by have h1:=qY a.data.toList b.data.toList;have h2:=o8 a.data.toList b.data.toList;have h3:=qZ a.data.toList b.data.toList;simp only[eB,BG] at h ⊢;rw[<-h1,<-h2];rw[<-h3] at h;simp at h ⊢;omega
theorem uK{a b:ByteArray}(h:eB b a=ZA):eB a b=ZG∨(eB a b=ZA/\(a.toList == b.toList)=ZG):=by have h1:=qY a.data.toList b.data.toList;have h2:=o8 a.data.toList b.data.toList;have h3:=qZ a.data.toList b.data.toList;simp only[eB,BG] at h ⊢;rw[<-h1,<-h2];rw[<-h3] at h;simp only[OU,AI] at h ⊢;omega
structure Kh (w:M)(b:Nat)(v0 v1:ZC):Prop where
 lt:b<w.heap.size
 c0:w.cell? (Q b 0 U)=T v0
 c1:w.cell? (Q b 1 U)=T v1
 z0:w.frozen? (Q b 0 U)=ZA
 z1:w.frozen? (Q b 1 U)=ZA
theorem uL (w:M)(c b:ZC)(t:ZH):Kh (A w (N #[c,b] t)) w.heap.size c b:=⟨by simp,by simp,by simp,by simp,by simp⟩
def fc (L:List Source)(t:ByteArray):Nat->Bool
 |0=>ZA
 |k+1=>fc L t k || eB t (dd L k).e
def bY (L:List Source)(x:Source)(t:ByteArray):Nat->List Source
 |0=>[]
 |k+1=>if fc L t k=ZA/\eB t (dd L k).e=ZG then bY L x t k++[x]++[dd L k] else bY L x t k++[dd L k]
def re (L:List Source)(x:Source)(t:ByteArray):List Source:=if fc L t L.length=ZG then bY L x t L.length else bY L x t L.length++[x]
theorem sG (L:List Source)(x:Source)(t:ByteArray)(k:Nat):(bY L x t k).length<=k+1/\(fc L t k=ZA->(bY L x t k).length=k):=by
 induction k with
 |zero=>simp[bY]
 |succ j b =>
  simp only[bY,fc];cases hd:fc L t j with
  |false =>
   have h1:=b.2 hd;cases hl:eB t (dd L j).e with
   |true=>simp[h1]
   |false=>simp[h1]
  |true =>have h1:=b.1;simp;omega
def o9 (n0:Nat)(f0:Nat->Source)(n1:Nat)(f1:Nat->Target)(t tx:ByteArray):Int :=
 if ce n0 f0 n1 f1≠0 then 1 else if aw t=ZA∨2000<(tx.size:Int) then 2 else if 200<=(bX f0 t n0).length+(keepT f1 t n1).length then 3 else 0
def mc (n0:Nat)(f0:Nat->Source)(n1:Nat)(f1:Nat->Target)(t tx:ByteArray):List Source:=if o9 n0 f0 n1 f1 t tx=0 then re (bX f0 t n0) ⟨t,tx⟩ t else []
def pa (n0:Nat)(f0:Nat->Source)(n1:Nat)(f1:Nat->Target)(t tx:ByteArray):List Target:=if o9 n0 f0 n1 f1 t tx=0 then keepT f1 t n1 else []
def me (n0:Nat)(f0:Nat->Source)(n1:Nat)(f1:Nat->Target)(t:ByteArray)(rt:Bool):Int :=
 if ce n0 f0 n1 f1≠0 then 1 else if aw t=ZA∨rt=ZA then 2 else if 200<=(bX f0 t n0).length+(keepT f1 t n1).length then 3 else 0
def fH (g:Nat->ByteArray)(t:ByteArray):Nat->Bool
 |0=>ZA
 |k+1=>fH g t k || eB t (g k)
def fe {b:Type}(g:Nat->ByteArray)(F:Nat->b)(x:b)(t:ByteArray):Nat->List b
 |0=>[]
 |k+1=>if fH g t k=ZA/\eB t (g k)=ZG then fe g F x t k++[x]++[F k] else fe g F x t k++[F k]
def mf {b:Type}(g:Nat->ByteArray)(F:Nat->b)(x:b)(t:ByteArray)(n:Nat):List b:=if fH g t n=ZG then fe g F x t n else fe g F x t n++[x]
theorem uM{c:Type}(g:Nat->ByteArray)(F:Nat->c)(x:c)(t:ByteArray)(k:Nat):(fe g F x t k).length<=k+1/\(fH g t k=ZA->(fe g F x t k).length=k):=by
 induction k with
 |zero=>simp[fe]
 |succ j b =>
  simp only[fe,fH];cases hd:fH g t j with
  |false =>
   have h1:=b.2 hd;cases hl:eB t (g j) with
   |true=>simp[h1]
   |false=>simp[h1]
  |true =>have h1:=b.1;simp;omega
theorem uN{b f:Type}(p:b->f)(g:Nat->ByteArray)(F:Nat->b)(x:b)(t:ByteArray)(k:Nat):(fe g F x t k).map p=fe g (λi=>p (F i)) (p x) t k:=by
 induction k with
 |zero=>rfl
 |succ j c =>simp only[fe];split<;>simp[c]
theorem EF{b c:Type}(p:b->c)(g:Nat->ByteArray)(F:Nat->b)(x:b)(t:ByteArray)(n:Nat):(mf g F x t n).map p=mf g (λi=>p (F i)) (p x) t n:=by
 unfold mf;split;{exact uN p g F x t n};{rw[DN,uN];rfl}
theorem yc{L:List Target}(h:i<L.length):bZ L i=L[i]:=by rw[bZ,IA,gq h];rfl
def uO (K:List Target)(x:Target)(t:ByteArray):List Target:=mf (nm1 (bZ K)) (λj=>K.getD j dfT) x t K.length
