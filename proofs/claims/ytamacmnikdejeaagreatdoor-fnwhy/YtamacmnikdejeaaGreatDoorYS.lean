import Derived.Test.YtamacmnikdejeaaGreatDoorZQ
import Derived.Test.YtamacmnikdejeaaGreatDoorYP
set_option maxRecDepth 100000
set_option maxHeartbeats 8000000
set_option linter.unusedSimpArgs false
open Go.Addr renaming mk->T
open Go.Value renaming slice->Y,string->U,int->I,agg->QV
open Option renaming none->Z,some->N
open Go.Obj renaming cells->Q
open Go.IntKind renaming i64->J
open Go renaming World->H,Value->QS
open Bool renaming false->QQ,true->QR
open Go.Ending renaming returned->QU
namespace Go.Proofs.YtamacmnikdejeaaGreatDoor.Vp
open RowKit Go.Sort
theorem qw:∀ a b:List UInt8,decide (Lib.compareBytes a b<0)=Op.bytesLess a b
 | [],[]=>by simp[Lib.compareBytes,Op.bytesLess]
 | [],_ :: _=>by simp[Lib.compareBytes,Op.bytesLess]
 | _ :: _,[]=>by simp[Lib.compareBytes,Op.bytesLess]
 | a :: x,b :: y=>by
  have f:=qw x y;rw[Lib.compareBytes,Op.bytesLess,<-f];by_cases h1:a<b
  ·simp[h1]
  ·rw[eI h1]
   by_cases h2:b<a
   ·have c:¬ a=b:=fun e=>by subst e;exact h1 h2
    simp[h1,h2,c]
   ·have c:a=b:=UInt8.le_antisymm (PE.1 h2) (PE.1 h1)
    subst c;simp[h1]
theorem oK:∀ a b:List UInt8,decide (Lib.compareBytes a b=0)=(a == b)
 | [],[]=>by simp[Lib.compareBytes]
 | [],_ :: _=>by simp[Lib.compareBytes]
 | _ :: _,[]=>by simp[Lib.compareBytes]
 | a :: x,b :: y=>by
  have f:=oK x y;rw[Lib.compareBytes];by_cases h1:a<b
  ·have c:¬ a=b:=fun e=>by subst e;exact(UInt8.lt_irrefl _ h1)
   simp[h1,c]
  ·rw[eI h1]
   by_cases h2:b<a
   ·have c:¬ a=b:=fun e=>by subst e;exact h1 h2
    simp[h2,c]
   ·have c:a=b:=UInt8.le_antisymm (PE.1 h2) (PE.1 h1)
    subst c;rw[eI h2,f];simp
end Go.Proofs.YtamacmnikdejeaaGreatDoor.Vp
namespace Go.Proofs.YtamacmnikdejeaaGreatDoor.Vp
open RowKit
def keepS (f:Nat->Source)(t:ByteArray)(k:Nat):List Source:=((List.range k).map f).filter fun x=>!(x.name.toList == t.toList)
def keepT (f:Nat->Target)(t:ByteArray)(k:Nat):List Target:=((List.range k).map f).filter fun x=>!(x.name.toList == t.toList)
theorem xS {f:Nat->Source}{t:ByteArray}{k:Nat}(h:((f k).name.toList == t.toList)=QR):keepS f t (k+1)=keepS f t k:=by simp only[keepS,KV,CV,M5];simp[h]
theorem xT {f:Nat->Source}{t:ByteArray}{k:Nat}(h:((f k).name.toList == t.toList)=QQ):keepS f t (k+1)=keepS f t k++[f k]:=by simp only[keepS,KV,CV,M5];simp[h]
theorem xU {f:Nat->Target}{t:ByteArray}{k:Nat}(h:((f k).name.toList == t.toList)=QR):keepT f t (k+1)=keepT f t k:=by simp only[keepT,KV,CV,M5];simp[h]
theorem xV {f:Nat->Target}{t:ByteArray}{k:Nat}(h:((f k).name.toList == t.toList)=QQ):keepT f t (k+1)=keepT f t k++[f k]:=by simp only[keepT,KV,CV,M5];simp[h]
theorem iM (f:Nat->Source)(t:ByteArray)(k:Nat):(keepS f t k).length<=k:=by have:=MK (fun x:Source=>!(x.name.toList == t.toList)) ((List.range k).map f);simpa[keepS] using this
theorem mV (f:Nat->Target)(t:ByteArray)(k:Nat):(keepT f t k).length<=k:=by have:=MK (fun x:Target=>!(x.name.toList == t.toList)) ((List.range k).map f);simpa[keepT] using this
theorem eA {w:H}{b size n:Nat}{e:TypeId}{v:QS}{c:List QS}(h:w.ownsRow b e size v n c)(hn:0<n):∃ g cap,v=Y (N (T g 0 Z)) n cap:=by
 rcases h.2 with ⟨_,h0⟩ | ⟨g,cap,cur,rfl,_⟩
 ·omega
 ·exact⟨g,cap,rfl⟩
theorem aF {w:H}{b size n:Nat}{e:TypeId}{v:QS}{c:List QS}(h:w.ownsRow b e size v n c):∃ a cap,v=Y a n cap:=by
 rcases h.2 with ⟨rfl,rfl⟩ | ⟨g,cap,cur,rfl,_⟩
 ·exact⟨_,_,rfl⟩
 ·exact⟨_,_,rfl⟩
theorem df (w:H)(x y:QS)(t:TypeId):∀ j u,[x,y][j]?=N u->(w.alloc (Q #[x,y] t)).cell? (((T w.heap.size 0 Z):Addr).add j)=N u:=by
 intro j u b;rw[addr_add,DN];match j,b with
 | 0,b=>simp at b;subst b;simp
 | 1,b=>simp at b;subst b;simp
abbrev TR:=Target × Nat × Nat
def bc (r:TR):List QS:=[U r.1.name,Y (N (T r.2.1 0 Z)) r.1.actN r.2.2]
structure TRow (w:H)(base:Nat)(v:QS)(R:List TR):Prop where
 own:w.ownsRow base 125 2 v R.length (R.flatMap bc)
 act:∀ r∈R,RowIns w r.2.1 0 r.1.actN r.1.act/\(∃ F,Cells w r.2.1 0 (r.1.actN*3) F)/\TypeAt w r.2.1 146/\base<=r.2.1
 up:R.Pairwise fun a b=>a.2.1≠b.2.1
theorem TypeAt.block {w b:H}{g:Nat}{e:TypeId}(h:TypeAt w g e)(hb:b.heap[g]?=w.heap[g]?):TypeAt b g e:=by obtain⟨c,f⟩:=h;exact⟨c,hb.trans f⟩
theorem RowIns.block {w b:H}{g off n:Nat}{f:Nat->Ins}(h:RowIns w g off n f)(hz:w.heap.size<=b.heap.size)(hb:b.heap[g]?=w.heap[g]?):RowIns b g off n f:=by refine⟨lj h.1 hz,fun i hi=>?_⟩;obtain⟨c,h1,h2⟩:=h.2 i hi;exact⟨(cj (a:=(T g _ Z)) hb).trans c,(cj (a:=(T g _ Z)) hb).trans h1,(cj (a:=(T g _ Z)) hb).trans h2⟩
theorem Cells.block {w c:H}{b off m:Nat}{F:Nat->QS}(h:Cells w b off m F)(hz:w.heap.size<=c.heap.size)(e:c.heap[b]?=w.heap[b]?):Cells c b off m F :=
 ⟨lj h.1 hz,fun j f=>⟨(cj (a:=(T b (off+j) Z)) e).trans (h.2 j f).1,(JW (a:=(T b (off+j) Z)) e).trans (h.2 j f).2⟩⟩
theorem TRow.below {w f:H}{b B:Nat}{v:QS}{R:List TR}(h:TRow w b v R)(hb:Below B w f)(c:w.heap.size<=B):TRow f b v R:=by refine⟨own_below h.own hb c,fun r g=>?_,h.up⟩;obtain⟨h1,⟨F,h2⟩,j,i⟩:=h.act r g;have e:=hb.block r.2.1 (lj h1.1 c);exact⟨h1.block hb.size e,⟨F,h2.block hb.size e⟩,j.block e,i⟩
theorem TRow.set {w:H}{b X j:Nat}{v:QS}{R:List TR}(h:TRow w b v R)(hX:X<b)(u:QS):TRow (w.setCell (T X j Z) u) b v R:=by refine⟨aS h.own hX u,fun r c=>?_,h.up⟩;obtain⟨h1,⟨F,h2⟩,g,f⟩:=h.act r c;have e:(w.setCell (T X j Z) u).heap[r.2.1]?=w.heap[r.2.1]?:=qh _ _ _ _ (by simp;omega);exact⟨h1.block (by simp) e,⟨F,h2.block (by simp) e⟩,g.block e,f⟩
theorem dr (w:H)(b:Nat):TRow w b (Y Z 0 0) []:=⟨CP _ _ _ _,fun r c=>absurd c (by simp),List.Pairwise.nil⟩
theorem TRow.type {w:H}{c:Nat}{v:QS}{R:List TR}(h:TRow w c v R):∀ k,v.ownBlock=N k->TypeAt w k 125:=by
 intro k b;rcases h.own.2 with ⟨rfl,_⟩ | ⟨g,cap,f,rfl,_,i,_⟩
 ·simp[Value.ownBlock] at b
 ·simp[Value.ownBlock] at b
  subst b;exact⟨f,i⟩
theorem TRow.more {w m s:H}{f g c:Nat}{v y:QS}{R:List TR}{x:Target}(h:TRow w f v R)(hb:Below w.heap.size w m)(hg:w.heap.size<=g)(n:f<=g)
  (t:m.ownsRow f 146 3 (Y (N (T g 0 Z)) x.actN c) x.actN (cF x.act x.actN)) (q:s.ownsRow f 125 2 y (R.length+1) (R.flatMap bc++bc (x,g,c))) (i:m.grownBy s v.ownBlock):TRow s f y (R++[(x,g,c)]):=by
 have o:∀ k,TypeAt m k 146->N k≠v.ownBlock:=fun k B e=>by have A:=(h.below hb ly).type k e.symm;exact eW B A (by decide) rfl
 have u:∀ r∈R,r.2.1<w.heap.size:=fun r j=>(h.act r j).1.1;refine⟨by simpa using q,fun r j=>?_,?_⟩
 ·rcases hU.1 j with j | j
  ·obtain⟨h1,⟨F,h2⟩,l,C⟩:=(h.below hb ly).act r j
   have e:=i.block r.2.1 h1.1 (o _ l);exact⟨h1.block i.size e,⟨F,h2.block i.size e⟩,l.block e,C⟩
  ·simp at j
   subst j;obtain⟨h1,F,h2⟩:=kM t;have l:=jz t;have e:=i.block g h1.1 (o _ l);exact⟨h1.block i.size e,⟨F,h2.block i.size e⟩,l.block e,n⟩
 ·rw[KT]
  refine⟨h.up,by simp,fun a z b p=>?_⟩;simp at p;subst p;have:=u a z;show a.2.1≠g;omega
theorem zK {w:H}{b0 q t o n0 n1:Nat}{i m:TypeId}{c h:QS}{p n:List QS}(s:w.ownsRow b0 i t c n0 p)(h1:w.ownsRow q m o h n1 n)(f:i≠m):c.ownBlock=Z∨c.ownBlock≠h.ownBlock:=by
 rcases s.2 with ⟨rfl,_⟩ | ⟨g,cap,j,rfl,_,r,_⟩
 ·exact .inl rfl
 ·right
  rcases h1.2 with ⟨rfl,_⟩ | ⟨g',cap',b,rfl,_,l,_⟩
  ·simp[Value.ownBlock]
  ·simp only[Value.ownBlock,ne_eq,JL]
   exact eW ⟨j,r⟩ ⟨b,l⟩ f
structure Boxes (w:H)(h:Nat)(p0 p1 v0 v1:QS):Prop where
 lt:h+2<w.heap.size
 a0:w.cell? (T h 0 Z)=N p0
 a1:w.cell? (T h 1 Z)=N p1
 r0:w.cell? (T (h+1) 0 Z)=N (Y Z 0 0)/\w.frozen? (T (h+1) 0 Z)=QQ
 r1:w.cell? (T (h+1) 1 Z)=N (Y Z 0 0)/\w.frozen? (T (h+1) 1 Z)=QQ
 o0:w.cell? (T (h+1+1) 0 Z)=N v0/\w.frozen? (T (h+1+1) 0 Z)=QQ
 o1:w.cell? (T (h+1+1) 1 Z)=N v1/\w.frozen? (T (h+1+1) 1 Z)=QQ
theorem Boxes.below {w g:H}{h B:Nat}{j l m n:QS}(b:Boxes w h j l m n)(hb:Below B w g)(hB:h+3<=B):Boxes g h j l m n:=by have c:∀ k o,k<B->g.cell? (T k o Z)=w.cell? (T k o Z):=fun k o i=>hb.cell (p:=(T k o Z)) i;have f:∀ k o,k<B->g.frozen? (T k o Z)=w.frozen? (T k o Z):=fun k o i=>hb.frozen (p:=(T k o Z)) i;exact⟨lj b.lt hb.size,(c _ _ (by omega)).trans b.a0,(c _ _ (by omega)).trans b.a1,⟨(c _ _ (by omega)).trans b.r0.1,(f _ _ (by omega)).trans b.r0.2⟩,⟨(c _ _ (by omega)).trans b.r1.1,(f _ _ (by omega)).trans b.r1.2⟩,⟨(c _ _ (by omega)).trans b.o0.1,(f _ _ (by omega)).trans b.o0.2⟩,⟨(c _ _ (by omega)).trans b.o1.1,(f _ _ (by omega)).trans b.o1.2⟩⟩
theorem Boxes.set0 {w:H}{h:Nat}{c f j g:QS}(b:Boxes w h c f j g)(u:QS):Boxes (w.setCell (T (h+1+1) 0 Z) u) h c f u g:=by have e:∀ k o,k≠h+1+1->(w.setCell (T (h+1+1) 0 Z) u).cell? (T k o Z)=w.cell? (T k o Z):=fun k o i=>cell_far _ _ _ _ (by simpa using fun e=>i e.symm);exact⟨by simpa using b.lt,(e _ _ (by omega)).trans b.a0,(e _ _ (by omega)).trans b.a1,⟨(e _ _ (by omega)).trans b.r0.1,by simpa using b.r0.2⟩,⟨(e _ _ (by omega)).trans b.r1.1,by simpa using b.r1.2⟩,⟨p7 _ _ _ (by rw[b.o0.1];rfl),by simpa using b.o0.2⟩,⟨(sq _ _ _ _ (by simp)).trans b.o1.1,by simpa using b.o1.2⟩⟩
theorem Boxes.set1 {w:H}{h:Nat}{c f g j:QS}(b:Boxes w h c f g j)(u:QS):Boxes (w.setCell (T (h+1+1) 1 Z) u) h c f g u:=by have e:∀ k o,k≠h+1+1->(w.setCell (T (h+1+1) 1 Z) u).cell? (T k o Z)=w.cell? (T k o Z):=fun k o i=>cell_far _ _ _ _ (by simpa using fun e=>i e.symm);exact⟨by simpa using b.lt,(e _ _ (by omega)).trans b.a0,(e _ _ (by omega)).trans b.a1,⟨(e _ _ (by omega)).trans b.r0.1,by simpa using b.r0.2⟩,⟨(e _ _ (by omega)).trans b.r1.1,by simpa using b.r1.2⟩,⟨(sq _ _ _ _ (by simp)).trans b.o0.1,by simpa using b.o0.2⟩,⟨p7 _ _ _ (by rw[b.o1.1];rfl),by simpa using b.o1.2⟩⟩
theorem zL (w:H)(b c:QS)(t:TypeId):Boxes (((w.alloc (Q #[b,c] t)).alloc (Q #[Y Z 0 0,Y Z 0 0] t)).alloc (Q #[Y Z 0 0,Y Z 0 0] t)) w.heap.size b c (Y Z 0 0) (Y Z 0 0):=by
 have A:Below (w.heap.size+1) (w.alloc (Q #[b,c] t)) (((w.alloc (Q #[b,c] t)).alloc (Q #[Y Z 0 0,Y Z 0 0] t)).alloc (Q #[Y Z 0 0,Y Z 0 0] t)):=(br.alloc (by simp) _).alloc (by simp) _;have C:Below (w.heap.size+1+1) ((w.alloc (Q #[b,c] t)).alloc (Q #[Y Z 0 0,Y Z 0 0] t)) (((w.alloc (Q #[b,c] t)).alloc (Q #[Y Z 0 0,Y Z 0 0] t)).alloc (Q #[Y Z 0 0,Y Z 0 0] t)):=br.alloc (by simp) _;have hz:(w.alloc (Q #[b,c] t)).heap.size=w.heap.size+1:=by simp
 have f:((w.alloc (Q #[b,c] t)).alloc (Q #[Y Z 0 0,Y Z 0 0] t)).heap.size=w.heap.size+1+1:=by simp
 refine⟨by simp,?_,?_,⟨?_,?_⟩,⟨?_,?_⟩,⟨?_,?_⟩,⟨?_,?_⟩⟩
 ·exact(A.cell (p:=(T w.heap.size 0 Z)) (j2 _)).trans (by simp)
 ·exact(A.cell (p:=(T w.heap.size 1 Z)) (j2 _)).trans (by simp)
 ·refine(C.cell (p:=(T (w.heap.size+1) 0 Z)) (j2 _)).trans ?_
  rw[<-hz];simp
 ·refine(C.frozen (p:=(T (w.heap.size+1) 0 Z)) (j2 _)).trans ?_
  rw[<-hz];simp
 ·refine(C.cell (p:=(T (w.heap.size+1) 1 Z)) (j2 _)).trans ?_
  rw[<-hz];simp
 ·refine(C.frozen (p:=(T (w.heap.size+1) 1 Z)) (j2 _)).trans ?_
  rw[<-hz];simp
 all_goals
  rw[<-f];clear A C hz f;generalize (w.alloc (Q #[b,c] t)).alloc (Q #[Y Z 0 0,Y Z 0 0] t)=W;simp
def lF (n0:Nat)(f0:Nat->Source)(n1:Nat)(f1:Nat->Target)(t:ByteArray):Int :=
 if bw n0 f0 n1 f1≠0 then 1 else if av t=QQ then 2 else if (bF (nm0 f0) n0 t || bF (nm1 f1) n1 t)=QQ then 4 else 0
def jf (n0:Nat)(f0:Nat->Source)(n1:Nat)(f1:Nat->Target)(t:ByteArray):List Source:=if lF n0 f0 n1 f1 t=0 then keepS f0 t n0 else []
def lG (n0:Nat)(f0:Nat->Source)(n1:Nat)(f1:Nat->Target)(t:ByteArray):List Target:=if lF n0 f0 n1 f1 t=0 then keepT f1 t n1 else []
theorem jg {p:Nat->Bool}{n i:Nat}(h:bT p n=QQ)(hi:i<n):p i=QQ:=by
 cases e:p i with
 | false=>rfl
 | true=>rw[eJ hi e] at h;cases h
theorem lH {n0:Nat}{f0:Nat->Source}{n1:Nat}{f1:Nat->Target}(h:bw n0 f0 n1 f1=0):bQ (nm0 f0) n0=QR/\bQ (nm1 f1) n1=QR/\∀ i,i<n1->1<=(f1 i).actN:=by
 unfold bw at h;split at h;· omega
 split at h;· omega
 split at h;· omega
 split at h;· omega
 split at h;· omega
 split at h;· omega
 split at h;· omega
 split at h;· omega
 rename_i j c _ _ g;refine⟨by simpa using j,by simpa using c,fun i hi=>?_⟩;have f:=jg (by simpa using g) hi;have b:valid (f1 i).act (f1 i).actN=QR:=by simpa[dE] using f
 have:=(cJ b).2.1;omega
theorem gH {w:H}{b base':Nat}{v:QS}{R:List TR}(h:TRow w b v R)(hb:base'<=b):TRow w base' v R:=by refine⟨aE h.own hb,fun r c=>?_,h.up⟩;obtain⟨h1,h2,f,h4⟩:=h.act r c;exact⟨h1,h2,f,by omega⟩
structure Pair (w:H)(h:Nat)(p0 p1:QS):Prop where
 lt:h+1<w.heap.size
 a0:w.cell? (T h 0 Z)=N p0
 a1:w.cell? (T h 1 Z)=N p1
 r0:w.cell? (T (h+1) 0 Z)=N (Y Z 0 0)/\w.frozen? (T (h+1) 0 Z)=QQ
 r1:w.cell? (T (h+1) 1 Z)=N (Y Z 0 0)/\w.frozen? (T (h+1) 1 Z)=QQ
theorem Pair.lt' {w:H}{h:Nat}{c f:QS}(b:Pair w h c f):h+2<=w.heap.size:=b.lt
theorem Pair.below {w g:H}{h B:Nat}{j l:QS}(b:Pair w h j l)(hb:Below B w g)(hB:h+2<=B):Pair g h j l:=by have c:∀ k o,k<B->g.cell? (T k o Z)=w.cell? (T k o Z):=fun k o i=>hb.cell (p:=(T k o Z)) i;have f:∀ k o,k<B->g.frozen? (T k o Z)=w.frozen? (T k o Z):=fun k o i=>hb.frozen (p:=(T k o Z)) i;exact⟨lj b.lt hb.size,(c _ _ (by omega)).trans b.a0,(c _ _ (by omega)).trans b.a1,⟨(c _ _ (by omega)).trans b.r0.1,(f _ _ (by omega)).trans b.r0.2⟩,⟨(c _ _ (by omega)).trans b.r1.1,(f _ _ (by omega)).trans b.r1.2⟩⟩
theorem tF (w:H)(b c:QS)(t:TypeId):Pair ((w.alloc (Q #[b,c] t)).alloc (Q #[Y Z 0 0,Y Z 0 0] t)) w.heap.size b c:=by
 have A:Below (w.heap.size+1) (w.alloc (Q #[b,c] t)) ((w.alloc (Q #[b,c] t)).alloc (Q #[Y Z 0 0,Y Z 0 0] t)):=br.alloc (by simp) _;have hz:(w.alloc (Q #[b,c] t)).heap.size=w.heap.size+1:=by simp
 refine⟨by simp,(A.cell (p:=(T w.heap.size 0 Z)) (j2 _)).trans (by simp),(A.cell (p:=(T w.heap.size 1 Z)) (j2 _)).trans (by simp),⟨?_,?_⟩,⟨?_,?_⟩⟩;all_goals
  rw[<-hz];clear A hz;generalize w.alloc (Q #[b,c] t)=W;simp
theorem tG (b off n0 c0:Nat)(a1:Option Addr)(n1 c1:Nat)(f0:Nat->Source)(t:ByteArray)(w:H)(hn0:(n0:Int)<=1048576)(f:RowSource w b off n0 f0):Calls Tryz.prog 73 #[QV #[Y (N (T b off Z)) n0 c0,Y a1 n1 c1],U t] w fun e o=>∃ r:Int,e=QU (I J r)/\decide (0<=r)=bF (nm0 f0) n0 t/\Below w.heap.size w o:=by
 have c:=ae ((q9 w).alloc ly (Q #[Y (N (T b off Z)) n0 c0,Y a1 n1 c1] 29));have l:=ae (f.below c ly);have n:(w.alloc (Q #[Y (N (T b off Z)) n0 c0,Y a1 n1 c1] 29)).cell? (T w.heap.size 0 Z)=N (Y (N (T b off Z)) n0 c0):=by simp
 clear f;go_enter Tryz.func73,Tryz.ntmps73;go_wp2;generalize w.alloc (Q #[Y (N (T b off Z)) n0 c0,Y a1 n1 c1] 29)=W at c l n ⊢;go_loop [5] (fun i=>∃ k:Nat,k<=n0/\i=I J k/\Hid (bF (nm0 f0) k t=QQ)) (fun i=>n0 - (intOf i).toNat);case atStart=>exact⟨0,by omega,rfl,rfl⟩
 case round =>
  obtain⟨k,hk,rfl,m⟩:=hrel;by_cases h:k<n0
  ·obtain⟨d0,d1⟩:=l.2 k h
   cases hb:((f0 k).name.toList == t.toList) with
   | true =>have j:=ae hb;go_wp2;go_ret;exact⟨k,rfl,by rw[fe (g:=nm0 f0) h j.out];simp,c.out⟩
   | false =>have j:=ae hb;go_wp2;exact⟨⟨k+1,by omega,by go_num,by show bF (nm0 f0) (k+1) t=QQ;rw[jU,m.out];exact j⟩,by simp[intOf];omega⟩
  ·have e:k=n0:=by omega
   subst e;go_wp2;go_ret;exact⟨-1,rfl,by rw[m.out];rfl,c⟩
theorem tH (a0:Option Addr)(c0:Nat)(a1:Option Addr)(n1 c1:Nat)(g:Nat->ByteArray)(t:ByteArray)(w:H):Calls Tryz.prog 73 #[QV #[Y a0 0 c0,Y a1 n1 c1],U t] w fun e b=>∃ r:Int,e=QU (I J r)/\decide (0<=r)=bF g 0 t/\Below w.heap.size w b:=by
 have c:=ae ((q9 w).alloc ly (Q #[Y a0 0 c0,Y a1 n1 c1] 29));go_enter Tryz.func73,Tryz.ntmps73;go_wp2;go_loop [5] (fun i=>i=I J 0) (fun _=>0);case atStart=>rfl
 case round =>subst hrel;go_wp2;go_ret;exact⟨-1,rfl,by rw[qV];rfl,c⟩
theorem tI (a0:Option Addr)(n0 c0:Nat)(a1:Option Addr)(n1 c1:Nat)(f0:Nat->Source)(t:ByteArray)(w:H)(hn0:(n0:Int)<=1048576)(c:SlSource w a0 n0 f0):Calls Tryz.prog 73 #[QV #[Y a0 n0 c0,Y a1 n1 c1],U t] w fun e g=>∃ r:Int,e=QU (I J r)/\decide (0<=r)=bF (nm0 f0) n0 t/\Below w.heap.size w g:=by
 rcases c with rfl | ⟨b,off,rfl,f⟩
 ·exact tH a0 c0 a1 n1 c1 (nm0 f0) t w
 ·exact tG b off n0 c0 a1 n1 c1 f0 t w hn0 f
def dfS:Source:=⟨⟨#[]⟩,⟨#[]⟩⟩
def dfT:Target:=⟨⟨#[]⟩,0,fun _=>⟨0,⟨#[]⟩,0⟩⟩
def dfR:TR:=(dfT,0,0)
def aR (L:List Source)(i:Nat):Source:=L.getD i dfS
def aT (L:List Target)(i:Nat):Target:=L.getD i dfT
theorem nG {w:H}{b c:Nat}{a:Option Addr}{L:List Source}(h:w.ownsRow b 121 2 (Y a L.length c) L.length (L.flatMap bG)):SlSource w a L.length (aR L):=by
 by_cases hn:L.length=0
 ·exact .inl hn
 ·obtain⟨g,c',e⟩:=eA h (by omega)
  simp at e;obtain⟨rfl,rfl⟩:=e;refine .inr ⟨g,0,rfl,(dq h).2,fun i hi=>?_⟩;have f:L[i]?=N (aR L i):=by rw[aR,BO,gq hi];rfl
  refine⟨?_,?_⟩
  ·have:=(bB h (j:=i*2) (u:=U (aR L i).name) (by have:=cW bG 2 (fun _=>rfl) L i 0 (by omega) _ f;simpa[bG] using this)).1
   rwa[show 0+i*2=i*2 by omega]
  ·have:=(bB h (j:=i*2+1) (u:=U (aR L i).text) (by have:=cW bG 2 (fun _=>rfl) L i 1 (by omega) _ f;simpa[bG] using this)).1
   rwa[show 0+i*2+1=i*2+1 by omega]
theorem vZ {R:List TR}{i:Nat}(hi:i<R.length):∃ r,R[i]?=N r/\r∈R:=⟨R[i],gq hi,gj hi⟩
theorem Cl {w:H}{f c:Nat}{a:Option Addr}{R:List TR}(h:TRow w f (Y a R.length c) R):SlTarget w a R.length (aT (R.map (·.1))):=by
 by_cases hn:R.length=0
 ·exact .inl hn
 ·obtain⟨g,c',e⟩:=eA h.own (by omega)
  simp at e;obtain⟨rfl,rfl⟩:=e;refine .inr ⟨g,0,rfl,(dq h.own).2,fun i hi=>?_⟩;obtain⟨r,b,m⟩:=vZ hi;have l:aT (R.map (·.1)) i=r.1:=by rw[aT,BO,IN,b];rfl
  rw[l];obtain⟨h1,_,_,_⟩:=h.act r m;refine⟨?_,N (T r.2.1 0 Z),r.2.2,?_,h1.sl⟩
  ·have:=(bB h.own (j:=i*2) (u:=U r.1.name) (by have:=cW bc 2 (fun _=>rfl) R i 0 (by omega) _ b;simpa[bc] using this)).1
   rwa[show 0+i*2=i*2 by omega]
  ·have:=(bB h.own (j:=i*2+1) (u:=Y (N (T r.2.1 0 Z)) r.1.actN r.2.2) (by have:=cW bc 2 (fun _=>rfl) R i 1 (by omega) _ b;simpa[bc] using this)).1
   rwa[show 0+i*2+1=i*2+1 by omega]
theorem GA {w j:H}{b size n:Nat}{e:TypeId}{v:QS}{l:List QS}{P:Nat->Prop}(h:w.ownsRow b e size v n l)(m:Touch P w j)(p:∀ k,v.ownBlock=N k->¬ P k):j.ownsRow b e size v n l:=by
 refine⟨h.1,?_⟩;rcases h.2 with h | ⟨g,cap,i,f,o,c,r⟩
 ·exact .inl h
 ·refine .inr ⟨g,cap,i,f,o,(m.block g ?_ (p g (by rw[f];rfl))).trans c,r⟩
  exact(nX.1 c).1
theorem qx:∀ a b:List UInt8,decide (0<Lib.compareBytes a b)=Op.bytesLess b a
 | [],[]=>by simp[Lib.compareBytes,Op.bytesLess]
 | [],_ :: _=>by simp[Lib.compareBytes,Op.bytesLess]
 | _ :: _,[]=>by simp[Lib.compareBytes,Op.bytesLess]
 | a :: x,b :: y=>by
  have g:=qx x y;rw[Lib.compareBytes,Op.bytesLess,<-g];by_cases h1:a<b
  ·have c:¬ b=a:=fun e=>by subst e;exact(UInt8.lt_irrefl _ h1)
   have f:¬ b<a:=fun h=>UInt8.lt_irrefl _ (UInt8.lt_trans h1 h);simp[h1,c,f]
  ·rw[eI h1]
   by_cases h2:b<a
   ·simp[h2]
   ·have c:a=b:=UInt8.le_antisymm (PE.1 h2) (PE.1 h1)
    subst c;simp[h1]
theorem iN {a b:ByteArray}(h:aL b a=QR):aL a b=QQ/\(a.toList == b.toList)=QQ:=by have h1:=qw a.data.toList b.data.toList;have h2:=oK a.data.toList b.data.toList;have c:=qx a.data.toList b.data.toList;simp only[aL,D0] at h ⊢;rw[<-h1,<-h2];rw[<-c] at h;simp at h ⊢;omega
theorem jD {a b:ByteArray}(h:aL b a=QQ):aL a b=QR∨(aL a b=QQ/\(a.toList == b.toList)=QR):=by have h1:=qw a.data.toList b.data.toList;have h2:=oK a.data.toList b.data.toList;have c:=qx a.data.toList b.data.toList;simp only[aL,D0] at h ⊢;rw[<-h1,<-h2];rw[<-c] at h;simp only[JX,kP] at h ⊢;omega
structure Gx (w:H)(b:Nat)(v0 v1:QS):Prop where
 lt:b<w.heap.size
 c0:w.cell? (T b 0 Z)=N v0
 c1:w.cell? (T b 1 Z)=N v1
 z0:w.frozen? (T b 0 Z)=QQ
 z1:w.frozen? (T b 1 Z)=QQ
theorem tJ (w:H)(c b:QS)(t:TypeId):Gx (w.alloc (Q #[c,b] t)) w.heap.size c b:=⟨by simp,by simp,by simp,by simp,by simp⟩
def dG (L:List Source)(t:ByteArray):Nat->Bool
 | 0=>QQ
 | k+1=>dG L t k || aL t (aR L k).name
def bV (L:List Source)(x:Source)(t:ByteArray):Nat->List Source
 | 0=>[]
 | k+1=>if dG L t k=QQ/\aL t (aR L k).name=QR then bV L x t k++[x]++[aR L k] else bV L x t k++[aR L k]
def iq (L:List Source)(x:Source)(t:ByteArray):List Source:=if dG L t L.length=QR then bV L x t L.length else bV L x t L.length++[x]
theorem zM (L:List Source)(x:Source)(t:ByteArray)(k:Nat):(bV L x t k).length<=k+1/\(dG L t k=QQ->(bV L x t k).length=k):=by
 induction k with
 | zero=>simp[bV]
 | succ j b =>
  simp only[bV,dG];cases hd:dG L t j with
  | false =>
   have h1:=b.2 hd;cases hl:aL t (aR L j).name with
   | true=>simp[h1]
   | false=>simp[h1]
  | true =>have h1:=b.1;simp;omega
def jE (n0:Nat)(f0:Nat->Source)(n1:Nat)(f1:Nat->Target)(t tx:ByteArray):Int :=
 if bw n0 f0 n1 f1≠0 then 1 else if av t=QQ∨2000<(tx.size:Int) then 2 else if 200<=(keepS f0 t n0).length+(keepT f1 t n1).length then 3 else 0
def fU (n0:Nat)(f0:Nat->Source)(n1:Nat)(f1:Nat->Target)(t tx:ByteArray):List Source:=if jE n0 f0 n1 f1 t tx=0 then iq (keepS f0 t n0) ⟨t,tx⟩ t else []
def gS (n0:Nat)(f0:Nat->Source)(n1:Nat)(f1:Nat->Target)(t tx:ByteArray):List Target:=if jE n0 f0 n1 f1 t tx=0 then keepT f1 t n1 else []
theorem cX {L:List Source}{i:Nat}(h:i<L.length):aR L i=L[i]:=by rw[aR,BO,gq h];rfl
theorem iu {g:Nat->ByteArray}{n:Nat}(h:∀ i j,i<j->j<n->aL (g i) (g j)=QR):bQ g n=QR:=by
 induction n with
 | zero=>rfl
 | succ k c =>
  have h1:=c (fun i j b hj=>h i j b (by omega));cases k with
  | zero=>rfl
  | succ m =>show(bQ g (m+1) && _)=QR;rw[h1];exact h m (m+1) (by omega) (by omega)
theorem mW {f:Nat->Source}{n:Nat}{t:ByteArray}:∀ y∈keepS f t n,(y.name.toList == t.toList)=QQ:=by intro y b;simpa using(MN.1 b).2
theorem lI {L:List Source}{x:Source}{t:ByteArray}{i:Nat}(hi:i<=L.length)(h1:∀ m,m<i->aL (nm0 (aR L) m) t=QR):∀ k,k<=i->dG L t k=QQ/\bV L x t k=L.take k
 | 0,_=>⟨rfl,rfl⟩
 | k+1,hk=>by
  obtain⟨f,b⟩:=lI (x:=x) hi h1 k (by omega);have c:aL t (aR L k).name=QQ:=(iN (h1 k (by omega))).1;refine⟨?_,?_⟩
  ·show(dG L t k || aL t (aR L k).name)=QQ
   rw[f,c];rfl
  ·show(if _ then _ else _)=_
   rw[eI (by rw[c];simp),b,cX (by omega)];exact MR (by omega)
theorem pF {L:List Source}{x:Source}{t:ByteArray}{i:Nat}(hi:i<=L.length)(h1:∀ m,m<i->aL (nm0 (aR L) m) t=QR)(h2:∀ m,i<=m->m<L.length->aL (nm0 (aR L) m) t=QQ)(j:∀ y∈L,(y.name.toList == t.toList)=QQ):∀ d,i+d+1<=L.length->dG L t (i+d+1)=QR/\bV L x t (i+d+1)=L.take i++x :: (L.drop i).take (d+1)
 | 0,hd=>by
  obtain⟨a1,f⟩:=lI (x:=x) hi h1 i ly;have b:i<L.length:=by omega
  have g:aL t (aR L i).name=QR:=by
   cases h:aL t (aR L i).name with
   | true=>rfl
   | false =>
    rcases jD h with c | ⟨_,c⟩
    ·have:=h2 i ly b
     rw[show nm0 (aR L) i=(aR L i).name from rfl,c] at this;cases this
    ·rw[cX b,j _ (gj b)] at c
     cases c
  refine⟨?_,?_⟩
  ·show(dG L t i || aL t (aR L i).name)=QR
   rw[g];simp
  ·show(if _ then _ else _)=_
   have e:(L.drop i).take (0+1)=[L[i]]:=by rw[NU b];rfl
   rw[gA ⟨a1,g⟩,f,cX b,e];simp
 | d+1,hd=>by
  obtain⟨a1,f⟩:=pF (x:=x) hi h1 h2 j d (by omega);refine⟨?_,?_⟩
  ·show(dG L t (i+d+1) || _)=QR
   rw[a1];rfl
  ·show(if _ then _ else _)=_
   rw[eI (by rw[show i+(d+1)=i+d+1 from rfl,a1];simp)];show bV L x t (i+d+1)++[aR L (i+d+1)]=_;have l:d+1<(L.drop i).length:=by rw[JZ];omega
   rw[f,cX (by omega),<-MR l,PD];simp[NW]
theorem wj {L:List Source}{x:Source}{t:ByteArray}{i:Nat}(hi:i<=L.length)(h1:∀ m,m<i->aL (nm0 (aR L) m) t=QR)(h2:∀ m,i<=m->m<L.length->aL (nm0 (aR L) m) t=QQ)(f:∀ y∈L,(y.name.toList == t.toList)=QQ):iq L x t=L.take i++x :: L.drop i:=by
 by_cases g:i=L.length
 ·subst g
  obtain⟨a1,b⟩:=lI (x:=x) hi h1 L.length ly;unfold iq;rw[eI (by rw[a1];simp),b];simp
 ·obtain⟨d,c⟩:∃ d,L.length=i+d+1:=⟨L.length - i - 1,by omega⟩
  obtain⟨a1,b⟩:=pF (x:=x) hi h1 h2 f d (by omega);unfold iq;have e:(L.drop i).take (d+1)=L.drop i:=J6 (by rw[JZ];omega);rw[c,gA a1,b,e]
def eh (g:Nat->ByteArray)(t:ByteArray):Nat->Bool
 | 0=>QQ
 | k+1=>eh g t k || aL t (g k)
def eY {b:Type}(g:Nat->ByteArray)(F:Nat->b)(x:b)(t:ByteArray):Nat->List b
 | 0=>[]
 | k+1=>if eh g t k=QQ/\aL t (g k)=QR then eY g F x t k++[x]++[F k] else eY g F x t k++[F k]
def kF {b:Type}(g:Nat->ByteArray)(F:Nat->b)(x:b)(t:ByteArray)(n:Nat):List b:=if eh g t n=QR then eY g F x t n else eY g F x t n++[x]
theorem Cm {b:Type}(g:Nat->ByteArray)(F:Nat->b)(x:b)(t:ByteArray)(k:Nat):(eY g F x t k).length<=k+1/\(eh g t k=QQ->(eY g F x t k).length=k):=by
 induction k with
 | zero=>simp[eY]
 | succ j c =>
  simp only[eY,eh];cases hd:eh g t j with
  | false =>
   have h1:=c.2 hd;cases hl:aL t (g j) with
   | true=>simp[h1]
   | false=>simp[h1]
  | true =>have h1:=c.1;simp;omega
theorem tK {b c:Type}(p:b->c)(g:Nat->ByteArray)(F:Nat->b)(x:b)(t:ByteArray)(k:Nat):(eY g F x t k).map p=eY g (fun i=>p (F i)) (p x) t k:=by
 induction k with
 | zero=>rfl
 | succ j f =>simp only[eY];split<;>simp[f]
theorem Cn {b c:Type}(p:b->c)(g:Nat->ByteArray)(F:Nat->b)(x:b)(t:ByteArray)(n:Nat):(kF g F x t n).map p=kF g (fun i=>p (F i)) (p x) t n:=by
 unfold kF;split
 ·exact tK p g F x t n
 ·rw[CV,tK];rfl
theorem kG {c:Type}{g:Nat->ByteArray}{L:List c}{d x:c}{t:ByteArray}{i:Nat}(hi:i<=L.length)(h1:∀ m,m<i->aL (g m) t=QR):∀ k,k<=i->eh g t k=QQ/\eY g (fun j=>L.getD j d) x t k=L.take k
 | 0,_=>⟨rfl,rfl⟩
 | k+1,hk=>by
  obtain⟨h,b⟩:=kG (d:=d) (x:=x) hi h1 k (by omega);have f:aL t (g k)=QQ:=(iN (h1 k (by omega))).1;have e:L.getD k d=L[k]'(by omega):=by rw[BO,gq (by omega)];rfl
  refine⟨?_,?_⟩
  ·show(eh g t k || aL t (g k))=QQ
   rw[h,f];rfl
  ·show(if _ then _ else _)=_
   rw[eI (by rw[f];simp),b];show L.take k++[L.getD k d]=_;rw[e];exact MR (by omega)
theorem nW {l:Type}{g:Nat->ByteArray}{L:List l}{d x:l}{t:ByteArray}{i:Nat}(hi:i<=L.length)(h1:∀ m,m<i->aL (g m) t=QR)(h2:∀ m,i<=m->m<L.length->aL (g m) t=QQ)(o:∀ m,m<L.length->((g m).toList == t.toList)=QQ):∀ e,i+e+1<=L.length->eh g t (i+e+1)=QR/\eY g (fun j=>L.getD j d) x t (i+e+1)=L.take i++x :: (L.drop i).take (e+1)
 | 0,hd=>by
  obtain⟨a1,f⟩:=kG (d:=d) (x:=x) hi h1 i ly;have b:i<L.length:=by omega
  have n:aL t (g i)=QR:=by
   cases h:aL t (g i) with
   | true=>rfl
   | false =>
    rcases jD h with c | ⟨_,c⟩
    ·have:=h2 i ly b
     rw[c] at this;cases this
    ·rw[o _ b] at c
     cases c
  have e:L.getD i d=L[i]:=by rw[BO,gq b];rfl
  refine⟨?_,?_⟩
  ·show(eh g t i || aL t (g i))=QR
   rw[n];simp
  ·show(if _ then _ else _)=_
   have p:(L.drop i).take (0+1)=[L[i]]:=by rw[NU b];rfl
   rw[gA ⟨a1,n⟩,f];show L.take i++[x]++[L.getD i d]=_;rw[e,p];simp
 | k+1,hd=>by
  obtain⟨a1,f⟩:=nW (d:=d) (x:=x) hi h1 h2 o k (by omega);have q:k+1<(L.drop i).length:=by rw[JZ];omega
  have e:L.getD (i+k+1) d=L[i+k+1]'(by omega):=by rw[BO,gq (by omega)];rfl
  refine⟨?_,?_⟩
  ·show(eh g t (i+k+1) || _)=QR
   rw[a1];rfl
  ·show(if _ then _ else _)=_
   rw[eI (by rw[show i+(k+1)=i+k+1 from rfl,a1];simp)];show eY g (fun j=>L.getD j d) x t (i+k+1)++[L.getD (i+k+1) d]=_;rw[f,e,<-MR q,PD];simp[NW]
theorem wk {c:Type}{g:Nat->ByteArray}{L:List c}{d x:c}{t:ByteArray}{i:Nat}(hi:i<=L.length)(h1:∀ m,m<i->aL (g m) t=QR)(h2:∀ m,i<=m->m<L.length->aL (g m) t=QQ)(f:∀ m,m<L.length->((g m).toList == t.toList)=QQ):kF g (fun j=>L.getD j d) x t L.length=L.take i++x :: L.drop i:=by
 by_cases h:i=L.length
 ·subst h
  obtain⟨a1,b⟩:=kG (d:=d) (x:=x) hi h1 L.length ly;unfold kF;rw[eI (by rw[a1];simp),b];simp
 ·obtain⟨k,l⟩:∃ k,L.length=i+k+1:=⟨L.length - i - 1,by omega⟩
  obtain⟨a1,b⟩:=nW (d:=d) (x:=x) hi h1 h2 f k (by omega);unfold kF;have e:(L.drop i).take (k+1)=L.drop i:=J6 (by rw[JZ];omega);rw[l,gA a1,b,e]
theorem dw {L:List Target}{i:Nat}(h:i<L.length):aT L i=L[i]:=by rw[aT,BO,gq h];rfl
theorem Gv {g:Nat->ByteArray}{n:Nat}(h:∀ i j,i<j->j<n->aL (g i) (g j)=QR):bQ g n=QR:=by
 induction n with
 | zero=>rfl
 | succ k c =>
  have h1:=c (fun i j b hj=>h i j b (by omega));cases k with
  | zero=>rfl
  | succ m =>show(bQ g (m+1) && _)=QR;rw[h1];exact h m (m+1) (by omega) (by omega)
def lJ (K:List Target)(x:Target)(t:ByteArray):List Target:=kF (nm1 (aT K)) (fun j=>K.getD j dfT) x t K.length
def gT (n0:Nat)(f0:Nat->Source)(n1:Nat)(f1:Nat->Target)(t:ByteArray)(b:Bool):Int :=
 if bw n0 f0 n1 f1≠0 then 1 else if av t=QQ∨b=QQ then 2 else if 200<=(keepS f0 t n0).length+(keepT f1 t n1).length then 3 else 0
theorem eE (a0:Option Addr)(n0 c0:Nat)(f0:Nat->Source)(a1:Option Addr)(n1 c1:Nat)(f1:Nat->Target)(t:ByteArray)(w:H)(hn0:(n0:Int)<=1048576)(hn1:(n1:Int)<=1048576)(ZB:SlSource w a0 n0 f0)(ZA:SlTarget w a1 n1 f1)(B:∀ i,i<n1->bP (f1 i)):Calls Tryz.prog 65 #[QV #[Y a0 n0 c0,Y a1 n1 c1],U t] w fun e Q0=>∃ o s R,e=QU (QV #[o,s])/\Q0.ownsRow (w.heap.size+3) 121 2 o (keepS f0 t n0).length ((keepS f0 t n0).flatMap bG)/\TRow Q0 (w.heap.size+3) s R/\R.map (·.1)=keepT f1 t n1/\Below w.heap.size w Q0:=by
 have V0:=ae ZB;have V1:=ae ZA;have HF:=ae B;clear ZB ZA B;obtain⟨X,hi,mv,n9,V⟩:=JV jc;obtain⟨la,hj,bt,aq,ld⟩:=JV fL;have A0:=ae ((((q9 w).alloc ly (Q #[Y a0 n0 c0,Y a1 n1 c1] 29)).alloc (by simp) (Q #[Y Z 0 0,Y Z 0 0] 29)).alloc (by simp;omega) (Q #[Y Z 0 0,Y Z 0 0] 29));have X0:=ae (zL w (Y a0 n0 c0) (Y a1 n1 c1) 29);go_enter Tryz.func65,Tryz.ntmps65;go_wp2;generalize ((w.alloc (Q #[Y a0 n0 c0,Y a1 n1 c1] 29)).alloc (Q #[Y Z 0 0,Y Z 0 0] 29)).alloc (Q #[Y Z 0 0,Y Z 0 0] 29)=W at A0 X0 ⊢;go_loopw [6] (fun i wr=>∃ (k:Nat) (o:QS),k<=n0/\i=I J k/\Hid (Boxes wr w.heap.size (Y a0 n0 c0) (Y a1 n1 c1) o (Y Z 0 0))/\Hid (wr.ownsRow (w.heap.size+3) 121 2 o (keepS f0 t k).length ((keepS f0 t k).flatMap bG))/\Hid (Below w.heap.size w wr)) (fun i _=>n0 - (intOf i).toNat);case atStart=>exact⟨0,_,by omega,rfl,X0,CP _ _ _ _,A0⟩
 case round =>
  obtain⟨k,o,QX,rfl,f,A,n⟩:=hrel;have K:=f.lt;by_cases r:k<n0
  ·obtain⟨b,off,rfl,q⟩:=V0.resolve_left (by omega)
   obtain⟨P,Q2⟩:=(q.2 k r).below n q.1;clear q;have hll:=iM f0 t k;have O:=f.a0;cases hq:((f0 k).name.toList == t.toList) with
   | true =>have u:=ae hq;go_wp2;exact⟨⟨k+1,o,by omega,by go_num,f,by show World.ownsRow _ _ _ _ _ _ _;rw[xS u.out];exact A,n⟩,by simp[intOf];omega⟩
   | false =>
    have u:=ae hq;obtain⟨x0,y0⟩:=f.o0;have F:=ae ((eL (w.heap.size+3) wr).drew.alloc (by simp;omega) (Q #[U (f0 k).name,U (f0 k).text] 121));go_wp2_with fail
    go_region_law (first
     | (refine dn rfl (.tmp 25) (.tmp 31) 26 rfl (w.heap.size+3) 121 X (QV #[U ⟨#[]⟩,U ⟨#[]⟩]) 2 32 Tryz.underlying26 hi mv n9 V rfl (by decide) o (keepS f0 t k).length ((keepS f0 t k).flatMap bG) (by simp[Act.eval]) (A.drew.alloc _) (T wr.heap.size 0 Z) 1 1 (bG (f0 k)) (by simp[Act.eval]) rfl (df wr.drew _ _ _) (by simp[bG,Value.oneCell']) (by unfold maxLen;omega) (by omega) (by simp<;>omega) ?_;intro v' w2 m h y;obtain⟨gs,cs,rfl⟩:=eA m (by omega);have O2:=ae m;have M:=ae (bg F h (by simp<;>omega) (fun j e=>(A.lt j e).1));obtain⟨x2,y2⟩:=(f.below M ly).o0;clear m h y))
    all_goals
     clear x0 y0 O;go_wp2;exact⟨⟨k+1,_,by omega,by go_num,(f.below M ly).set0 _,by show World.ownsRow _ _ _ _ _ _ _;rw[xT u.out,a8,HH];simpa using aS O2.out (by omega) _,(n.trans (M.mono (by omega))).setCell (by simp;omega) _⟩,by simp[intOf];omega⟩
  ·have e:n0=k:=by omega
   subst e;have O:=f.a0;have G:=f.a1;go_wp2;clear O G r QX;generalize wr=W1 at f A n K ⊢;go_loopw [7] (fun i wr=>∃ (k:Nat) (s:QS) (R:List TR),k<=n1/\i=I J k/\Hid (Boxes wr w.heap.size (Y a0 n0 c0) (Y a1 n1 c1) o s)/\Hid (wr.ownsRow (w.heap.size+3) 121 2 o (keepS f0 t n0).length ((keepS f0 t n0).flatMap bG))/\Hid (TRow wr (w.heap.size+3) s R)/\Hid (R.map (·.1)=keepT f1 t k)/\Hid (Below w.heap.size w wr)) (fun i _=>n1 - (intOf i).toNat);case atStart=>exact⟨0,_,[],by omega,rfl,f,A,dr _ _,rfl,n⟩
   case round =>
    clear f A n;obtain⟨k,s,R,QX,rfl,f,D,z,E,n⟩:=hrel;have hlt4:=f.lt;by_cases r:k<n1
    ·obtain⟨b,off,rfl,q⟩:=V1.resolve_left (by omega)
     obtain⟨P,ka,kc,Q2,hx⟩:=(q.2 k r).below n ly q.1;have HX:=ae hx;have QY:=q.1;clear q hx;have hRl:R.length<=1048576:=by have h1:=JN List.length E.out;have h2:=mV f1 t k;simp at h1;omega
     have QW:((f1 k).actN:Int)<=1048576:=by have:=HF.out k r;unfold bP at this;omega
     have G:=f.a1;have hbh:¬ b=w.heap.size+1+1:=by omega
     have hbh2:¬ w.heap.size+1+1=b:=by omega
     have hbw:b<wr.heap.size:=lj QY n.size;cases hq:((f1 k).name.toList == t.toList) with
     | true =>have u:=ae hq;go_wp2;exact⟨⟨k+1,s,R,by omega,by go_num,f,D,z,by show _=keepT f1 t (k+1);rw[xU u.out];exact E,n⟩,by simp[intOf];omega⟩
     | false =>
      have u:=ae hq;obtain⟨x1,y1⟩:=f.o1;have F:=ae (q9 wr).drew;go_wp2_with fail
      go_region_law (first
       | (go_simp;go_at_call 67;refine(iZ ka (f1 k).actN kc (f1 k).act _ QW (HX.below F ly)).mono ?_;rintro e C ⟨g,c,rfl,QZ,hB⟩;have l:=ae (F.trans (hB.mono (by simp)));have n8:=(l.cell (p:=(T b (off+k*2) Z)) hbw).trans P;have fd:=(l.cell (p:=(T b (off+k*2+1) Z)) hbw).trans Q2;have Q9:=(dq QZ).1;have OC:=ae (aE QZ (base':=w.heap.size+3) (by simp;omega));have L:wr.heap.size<=g:=(by simpa using Q9);obtain⟨xC,yC⟩:=(f.below l (by omega)).o1;have kC:=(f.below l (by omega)).a1;have hzC:w.heap.size+1+1<C.heap.size:=(by have:=(f.below l (by omega)).lt;omega);have hyC:w.heap.size<C.heap.size:=(by omega);have hxC:b<C.heap.size:=(by have:=l.size;omega);clear hB QZ Q9)
       | (refine dn rfl (.tmp 50) (.tmp 65) 27 rfl (w.heap.size+3) 125 la (QV #[U ⟨#[]⟩,Y Z 0 0]) 2 40 Tryz.underlying27 hj bt aq ld rfl (by decide) s R.length (R.flatMap bc) (by simp[Act.eval]) ((z.below l ly).own.alloc _) (T C.heap.size 0 Z) 1 1 (bc (f1 k,g,c)) (by simp[Act.eval]) rfl (df C _ _ _) (by simp[bc,Value.oneCell']) (by unfold maxLen;omega) (by omega) (by first | (simp;done) | (simp;omega) | (have:=l.size;simp;omega)) ?_;intro v' w2 m h y;obtain⟨gs,cs,rfl⟩:=eA m (by omega);have T2:=ae (z.more (x:=f1 k) (g:=g) (c:=c) (l.alloc l.size _) L (by omega) (OC.alloc _) m h);have S:=ae (bg ((l.mono (show w.heap.size+3<=wr.heap.size by omega)).alloc (by have:=l.size;omega) _) h (by have:=l.size;simp;omega) (fun j e=>(z.own.lt j e).1));obtain⟨x2,y2⟩:=(f.below S ly).o1;have ph:=ae ((own_below D (l.alloc l.size _) ly).kept h (zK (own_below D (l.alloc l.size (Q #[U (f1 k).name,Y (N (T g 0 Z)) (f1 k).actN c] 125)) ly) ((z.below l ly).own.alloc _) (by decide)));clear m h y))
      all_goals
       clear n8 fd xC yC x1 y1 G kC P Q2;go_wp2;exact⟨⟨k+1,_,R++[(f1 k,g,c)],by omega,by go_num,(f.below S ly).set1 _,aS ph (by omega) _,T2.set (by omega) _,by show _=keepT f1 t (k+1);rw[xV u.out,CV,E.out];rfl,(n.trans (S.mono (by omega))).setCell (by simp;omega) _⟩,by simp[intOf];omega⟩
    ·have e:n1=k:=by omega
     subst e;have G:=f.a1;obtain⟨sa,sc,rfl⟩:=aF D;obtain⟨ta,tc,rfl⟩:=aF z.own;obtain⟨r0,q0⟩:=f.r0;obtain⟨r1,q1⟩:=f.r1;obtain⟨m0,_⟩:=f.o0;obtain⟨m1,_⟩:=f.o1;go_wp2;exact bp (v:=QV #[Y sa _ sc,Y ta _ tc]) (by simp[results,Tryz.results65,go_sem,r0,r1]) rfl ⟨_,_,R,rfl,aS (aS D (by omega) _) (by omega) _,(z.set (by omega) _).set (by omega) _,E,(n.setCell (by simp) _).setCell (by simp) _⟩
theorem mX (a0:Option Addr)(n0 c0:Nat)(f0:Nat->Source)(a1:Option Addr)(n1 c1:Nat)(f1:Nat->Target)(t tx:ByteArray)(w:H)(hn0:(n0:Int)<=1048576)(hn1:(n1:Int)<=1048576)(DE:SlSource w a0 n0 f0)(Bk:SlTarget w a1 n1 f1)(n8:∀ i,i<n1->bP (f1 i))(hs:∀ i,i<n1->∀ j,j<(f1 i).actN->((f1 i).act j).s.size<=maxLen):Calls Tryz.prog 20 #[QV #[Y a0 n0 c0,Y a1 n1 c1],U t,U tx] w fun e QX=>∃ v0 v1 R,e=QU (.tuple #[QV #[v0,v1],I J (jE n0 f0 n1 f1 t tx)])/\QX.ownsRow w.heap.size 121 2 v0 (fU n0 f0 n1 f1 t tx).length ((fU n0 f0 n1 f1 t tx).flatMap bG)/\TRow QX w.heap.size v1 R/\R.map (·.1)=gS n0 f0 n1 f1 t tx/\Below w.heap.size w QX:=by
 have V0:=ae DE;have V1:=ae Bk;have HF:=ae n8;have HS:=ae hs;clear DE Bk n8 hs;obtain⟨F,ZA,O,Q9,QZ⟩:=JV jc;obtain⟨C,hC⟩:∃ C,C=bw n0 f0 n1 f1:=⟨_,rfl⟩
 obtain⟨D,hD⟩:∃ D,D=jE n0 f0 n1 f1 t tx:=⟨_,rfl⟩
 obtain⟨LS,ph⟩:∃ LS,LS=fU n0 f0 n1 f1 t tx:=⟨_,rfl⟩
 obtain⟨LT,ro⟩:∃ LT,LT=gS n0 f0 n1 f1 t tx:=⟨_,rfl⟩
 rw[<-hD,<-ph,<-ro];have HC:=ae hC;have HD:=ae (hD.trans (by unfold jE;rw[<-hC]));have x:=ae (ph.trans (by unfold fU;rw[<-hD]));have aq:=ae (ro.trans (by unfold gS;rw[<-hD]));clear hC hD ph ro;have A0:=ae (((q9 w).alloc ly (Q #[Y a0 n0 c0,Y a1 n1 c1] 29)).alloc (by simp) (Q #[Y Z 0 0,Y Z 0 0] 29));have X0:=ae (tF w (Y a0 n0 c0) (Y a1 n1 c1) 29);go_enter Tryz.func20,Tryz.ntmps20;go_wp2_with fail;generalize (w.alloc (Q #[Y a0 n0 c0,Y a1 n1 c1] 29)).alloc (Q #[Y Z 0 0,Y Z 0 0] 29)=W at A0 X0 ⊢;refine(fs a0 n0 c0 f0 a1 n1 c1 f1 _ hn0 hn1 (V0.below A0 ly) (V1.below A0 ly) HF HS).mono ?_;rintro e w1 ⟨rfl,y⟩;rw[<-HC.out];have X1:=ae (X0.below y X0.lt');have B1:=ae (A0.trans (y.mono A0.size));clear y A0 X0;by_cases hc:C=0;case neg =>
  have hd:=HD.out;rw[gA hc] at hd;have q:=x.out;rw[eI (by omega)] at q;have n:=aq.out;rw[eI (by omega)] at n;subst hd q n;have hc':(C == 0)=QQ:=by simpa using hc
  obtain⟨r0,q0⟩:=X1.r0;obtain⟨r1,QY⟩:=X1.r1;go_wp2;exact bp (v:=.tuple #[QV #[Y Z 0 0,Y Z 0 0],I J 1]) (by simp[results,Tryz.results20,go_sem,r0,r1]) rfl ⟨_,_,[],rfl,CP _ _ _ _,dr _ _,rfl,(B1.setCell (by simp) _).setCell (by simp) _⟩
 subst hc;have hz:=lH HC.symm;have HZ:=ae hz;clear hz HC;have n9:=HD.out;rw[eI (by omega)] at n9;have qr:=ae n9;clear n9 HD;go_wp2_with fail;refine(cY t _).mono ?_;rintro e w2 ⟨rfl,y⟩;have ZB:=ae (X1.below y X1.lt');have S:=ae (B1.trans (y.mono B1.size));clear y X1 B1;by_cases m:av t=QQ∨2000<(tx.size:Int)
 ·have hd:=qr.out
  rw[gA m] at hd;have q:=x.out;rw[eI (by omega)] at q;have n:=aq.out;rw[eI (by omega)] at n;subst hd q n;obtain⟨r0,q0⟩:=ZB.r0;obtain⟨r1,QY⟩:=ZB.r1;cases hn:av t with
  | false =>clear m;go_wp2;exact bp (v:=.tuple #[QV #[Y Z 0 0,Y Z 0 0],I J 2]) (by simp[results,Tryz.results20,go_sem,r0,r1]) rfl ⟨_,_,[],rfl,CP _ _ _ _,dr _ _,rfl,(S.setCell (by simp) _).setCell (by simp) _⟩
  | true =>have Fd:(2000:Int)<tx.size:=m.resolve_left (by simp[hn]);clear m;go_wp2;exact bp (v:=.tuple #[QV #[Y Z 0 0,Y Z 0 0],I J 2]) (by simp[results,Tryz.results20,go_sem,r0,r1]) rfl ⟨_,_,[],rfl,CP _ _ _ _,dr _ _,rfl,(S.setCell (by simp) _).setCell (by simp) _⟩
 have th:=qr.out;rw[eI m] at th;have At:=ae th;have hn:av t=QR:=by
  cases h:av t with
  | true=>rfl
  | false=>exact absurd (.inl h) m
 have Fd:¬ (2000:Int)<tx.size:=fun h=>m (.inr h);clear th qr m;have k0:=ZB.a0;have k1:=ZB.a1;rw[hn];go_wp2_with fail;refine(eE a0 n0 c0 f0 a1 n1 c1 f1 t _ hn0 hn1 (V0.below S ly) (V1.below S ly) HF).mono ?_;rintro e z ⟨v0,v1,R,rfl,hO,hR,hM,y⟩;have hlt2:=ZB.lt;have X3:=ae (ZB.below y ZB.lt');have B3:=ae (S.trans (y.mono S.size));obtain⟨sa,sc,rfl⟩:=aF hO;obtain⟨ta,Q2,rfl⟩:=aF hR.own;have eR:R.length=(keepT f1 t n1).length:=by rw[<-hM];simp
 have Fk:=iM f0 t n0;have Fm:=mV f1 t n1;obtain⟨L,hL⟩:∃ L,L=keepS f0 t n0:=⟨_,rfl⟩
 obtain⟨K,hK⟩:∃ K,K=keepT f1 t n1:=⟨_,rfl⟩
 rw[<-hL] at hO Fk ⊢;rw[<-hK] at hM Fm eR;have B:=At.out;rw[<-hL,<-hK] at B;have q:=x.out;rw[<-hL] at q;have n:=aq.out;rw[<-hK] at n;have ER:=ae eR;have hlr:R.length<=n1:=by omega
 clear At x aq hL hK y k0 k1 hn ZB S eR;have O3:=ae (aE hO (base':=w.heap.size) (by omega));have RX:Hid (∀ QX,Below z.heap.size z QX->TRow QX (w2.heap.size+3) (Y ta R.length Q2) R):=fun QX hb=>hR.below hb ly;have HM:=ae hM;have hll:(L.length:Int)<=1048576:=by omega
 clear hO hR hM;have DB:=ae ((q9 z).alloc ly (Q #[Y sa L.length sc,Y ta R.length Q2] 29));have V:=ae (tJ z (Y sa L.length sc) (Y ta R.length Q2) 29);have X4:=ae (X3.below DB X3.lt');have B4:=ae (B3.trans (DB.mono B3.size));have O4:=ae (own_below O3 DB ly);have fd:=ae DB.out;have ur:w.heap.size+1<z.heap.size:=X3.lt;have c8:=V.c0;have c9:=V.c1;clear O3 DB;by_cases hc3:(200:Int)<=L.length+R.length
 ·rw[gA (by have:=ER.out;omega)] at B
  rw[eI (by omega)] at q n;subst B q n;obtain⟨r0,q0⟩:=X3.r0;obtain⟨r1,QY⟩:=X3.r1;clear c8 c9;go_wp2;exact bp (v:=.tuple #[QV #[Y Z 0 0,Y Z 0 0],I J 3]) (by simp[results,Tryz.results20,go_sem,r0,r1,ur]) rfl ⟨_,_,[],rfl,CP _ _ _ _,dr _ _,rfl,((B3.setCell (by simp) _).setCell (by simp) _).alloc (by have:=B3.size;simp;omega) _⟩
 clear X3 B3;rw[eI (by have:=ER.out;omega)] at B;rw[gA B] at q n;subst B n;have x:=ae q;clear q;go_wp2;have G:(z.alloc (Q #[Y sa L.length sc,Y ta R.length Q2] 29)).heap.size=z.heap.size+1:=by simp
 generalize z.alloc (Q #[Y sa L.length sc,Y ta R.length Q2] 29)=w4 at V X4 B4 O4 fd c8 c9 G ⊢;generalize z.heap.size=X at V c8 c9 ur G RX fd ⊢;obtain⟨r,sm⟩:∃ r,r=w4.heap.size:=⟨_,rfl⟩
 have E0:Hid (Below r w4 (w4.alloc (Q #[] 121))):=by rw[sm];exact br.alloc ly _
 have W0:Hid ((w4.alloc (Q #[] 121)).ownsRow r 121 2 (Y (N (T (X+1) 0 Z)) 0 0) 0 []):=by rw[<-G];exact J9 w4 #[] 0 (by omega) (by unfold maxLen;omega) rfl
 have u:X<r:=by have:=V.lt;omega
 have f:=ae sm;have P:=ae G;clear sm G;go_loopw [9,10,11] (fun v d i wr=>∃ (k:Nat) (db:Bool),k<=L.length/\i=I J k/\d=.bool db/\Hid (db=dG L t k)/\Hid (wr.ownsRow r 121 2 v (bV L ⟨t,tx⟩ t k).length ((bV L ⟨t,tx⟩ t k).flatMap bG))/\Hid (Below r w4 wr)) (fun _ _ i _=>L.length - (intOf i).toNat);case atStart=>exact⟨0,QQ,by omega,rfl,rfl,rfl,W0,E0⟩
 case round =>
  obtain⟨k,db,hk,rfl,rfl,E,A,l⟩:=hrel;have e8:=(l.cell (p:=(T X 0 Z)) u).trans c8;have DQ:=zM L ⟨t,tx⟩ t k;obtain⟨hlen1,bt⟩:=DQ;have HL2:=ae bt;clear bt;by_cases n:k<L.length
  ·obtain⟨b,off,rfl,hr⟩:=(nG O4).resolve_left (by omega)
   obtain⟨p0,p1⟩:=hr.2 k n;have ld:b<r:=by have:=hr.1;have:=f.out;omega
   have d0:=(l.cell (p:=(T b (off+k*2) Z)) ld).trans p0;have d1:=(l.cell (p:=(T b (off+k*2+1) Z)) ld).trans p1;clear hr;cases db with
   | true =>
    have HI:Hid (bV L ⟨t,tx⟩ t (k+1)=bV L ⟨t,tx⟩ t k++[aR L k]):=by show(if _ then _ else _)=_;rw[eI (by rw[<-E.out];simp)]
    have HN:Hid (QR=dG L t (k+1)):=by show QR=(dG L t k || _);rw[<-E.out];rfl
    go_wp2_with (at_builtin;(refine wC _ rfl (.tmp 63) (.tmp 69) 26 rfl r 121 F (QV #[U ⟨#[]⟩,U ⟨#[]⟩]) 2 32 Tryz.underlying26 ZA O Q9 QZ rfl (by decide) _ (bV L ⟨t,tx⟩ t k).length ((bV L ⟨t,tx⟩ t k).flatMap bG) (by simp[Act.eval]) (A.alloc _) (T wr.heap.size 0 Z) 1 1 (bG (aR L k)) (by simp[Act.eval]) rfl (df wr _ _ _) (by simp[bG,Value.oneCell']) (by unfold maxLen;omega) (by omega) (by have:=l.size;have:=f.out;simp;omega) ?_;intro vy wy g c o;have OY:=ae g;have BY:=ae (bg (l.alloc (by have:=l.size;have:=f.out;omega) (Q #[U (aR L k).name,U (aR L k).text] 121)) c (by have:=l.size;have:=f.out;simp;omega) (fun j e=>(A.lt j e).1));clear g c o));exact⟨⟨k+1,QR,by omega,by go_num,rfl,HN,by show World.ownsRow _ _ _ _ _ _ _;rw[HI.out,a8,HH];simpa using OY.out,BY⟩,by simp[intOf];omega⟩
   | false =>
    cases hq:aL t (aR L k).name with
    | true =>
     have HI:Hid (bV L ⟨t,tx⟩ t (k+1)=bV L ⟨t,tx⟩ t k++[⟨t,tx⟩]++[aR L k]):=by show(if _ then _ else _)=_;rw[gA ⟨E.symm,hq⟩]
     have HN:Hid (QR=dG L t (k+1)):=by show QR=(dG L t k || _);rw[hq];simp
     obtain⟨QY,q2⟩:=iN hq;clear hq;go_wp2_with (at_builtin;first | (refine wC _ rfl (.tmp 57) (.tmp 61) 26 rfl r 121 F (QV #[U ⟨#[]⟩,U ⟨#[]⟩]) 2 32 Tryz.underlying26 ZA O Q9 QZ rfl (by decide) _ (bV L ⟨t,tx⟩ t k).length ((bV L ⟨t,tx⟩ t k).flatMap bG) (by simp[Act.eval]) (A.alloc _) (T wr.heap.size 0 Z) 1 1 (bG ⟨t,tx⟩) (by simp[Act.eval]) rfl (df wr _ _ _) (by simp[bG,Value.oneCell']) (by unfold maxLen;omega) (by omega) (by have:=l.size;have:=f.out;simp;omega) ?_;intro vx wx g c o;have OX:=ae g;have QW:=ae (bg (l.alloc (by have:=l.size;have:=f.out;omega) (Q #[U t,U tx] 121)) c (by have:=l.size;have:=f.out;simp;omega) (fun j e=>(A.lt j e).1));have f8:=(QW.cell (p:=(T X 0 Z)) u).trans c8;have g0:=(QW.cell (p:=(T b (off+k*2) Z)) ld).trans p0;have g1:=(QW.cell (p:=(T b (off+k*2+1) Z)) ld).trans p1;clear g c o) | (refine wC _ rfl (.tmp 63) (.tmp 69) 26 rfl r 121 F (QV #[U ⟨#[]⟩,U ⟨#[]⟩]) 2 32 Tryz.underlying26 ZA O Q9 QZ rfl (by decide) _ ((bV L ⟨t,tx⟩ t k).length+1) ((bV L ⟨t,tx⟩ t k).flatMap bG++bG ⟨t,tx⟩) (by simp[Act.eval]) (OX.alloc _) (T wx.heap.size 0 Z) 1 1 (bG (aR L k)) (by simp[Act.eval]) rfl (df wx _ _ _) (by simp[bG,Value.oneCell']) (by unfold maxLen;omega) (by omega) (by have:=QW.size;have:=f.out;simp;omega) ?_;intro vy wy g c o;have OY:=ae g;have BY:=ae (bg (QW.alloc (by have:=QW.size;have:=f.out;omega) (Q #[U (aR L k).name,U (aR L k).text] 121)) c (by have:=QW.size;have:=f.out;simp;omega) (fun j e=>(OX.lt j e).1));clear g c o));exact⟨⟨k+1,QR,by omega,by go_num,rfl,HN,by show World.ownsRow _ _ _ _ _ _ _;rw[HI.out,a8,a8,HH,HH];simpa using OY.out,BY⟩,by simp[intOf];omega⟩
    | false =>
     have HI:Hid (bV L ⟨t,tx⟩ t (k+1)=bV L ⟨t,tx⟩ t k++[aR L k]):=by show(if _ then _ else _)=_;rw[eI (by rw[hq];simp)]
     have HN:Hid (QQ=dG L t (k+1)):=by show QQ=(dG L t k || _);rw[<-E.out,hq];rfl
     have HQ:=ae (jD hq);clear hq;rcases HQ.out with QY | ⟨QY,q2⟩
     all_goals
      go_wp2_with (at_builtin;(refine wC _ rfl (.tmp 63) (.tmp 69) 26 rfl r 121 F (QV #[U ⟨#[]⟩,U ⟨#[]⟩]) 2 32 Tryz.underlying26 ZA O Q9 QZ rfl (by decide) _ (bV L ⟨t,tx⟩ t k).length ((bV L ⟨t,tx⟩ t k).flatMap bG) (by simp[Act.eval]) (A.alloc _) (T wr.heap.size 0 Z) 1 1 (bG (aR L k)) (by simp[Act.eval]) rfl (df wr _ _ _) (by simp[bG,Value.oneCell']) (by unfold maxLen;omega) (by omega) (by have:=l.size;have:=f.out;simp;omega) ?_;intro vy wy g c o;have OY:=ae g;have BY:=ae (bg (l.alloc (by have:=l.size;have:=f.out;omega) (Q #[U (aR L k).name,U (aR L k).text] 121)) c (by have:=l.size;have:=f.out;simp;omega) (fun j e=>(A.lt j e).1));clear g c o));exact⟨⟨k+1,QQ,by omega,by go_num,rfl,HN,by show World.ownsRow _ _ _ _ _ _ _;rw[HI.out,a8,HH];simpa using OY.out,BY⟩,by simp[intOf];omega⟩
  ·have e:L.length=k:=by omega
   subst e;cases db with
   | true =>
    have M:iq L ⟨t,tx⟩ t=bV L ⟨t,tx⟩ t L.length:=by unfold iq;rw[gA E.symm]
    obtain⟨va,vc,rfl⟩:=aF A;have OF:Hid (wr.ownsRow r 121 2 (Y va (bV L ⟨t,tx⟩ t L.length).length vc) LS.length (LS.flatMap bG)):=by show World.ownsRow _ _ _ _ _ _ _;rw[x.out,M];exact A
    have la:=f.out;have mv:=P.out;have H1:=ae la;have H2:=ae mv;have H3:=ae M;have e9:=(l.cell (p:=(T X 1 Z)) u).trans c9;have y8:=(l.frozen (p:=(T X 0 Z)) u).trans V.z0;obtain⟨r0,q0⟩:=(X4.below l (by omega)).r0;obtain⟨r1,QY⟩:=(X4.below l (by omega)).r1;clear la mv M;go_wp2;have la:=f.out;have mv:=P.out;exact bp (v:=.tuple #[QV #[Y va (bV L ⟨t,tx⟩ t L.length).length vc,Y ta R.length Q2],I J 0]) (by simp[results,Tryz.results20,go_sem,r0,r1]) rfl ⟨_,_,R,rfl,aE (aS (aS (aS OF (R:=X) (j:=0) (by omega) _) (R:=w.heap.size+1) (j:=0) (by omega) _) (R:=w.heap.size+1) (j:=1) (by omega) _) (by omega),gH (((RX _ ((fd.trans (l.mono (by omega))).setCell (p:=(T X 0 Z)) ly _)).set (X:=w.heap.size+1) (j:=0) (by omega) _).set (X:=w.heap.size+1) (j:=1) (by omega) _) (by omega),HM,(((B4.trans (l.mono (by omega))).setCell (by simp;omega) _).setCell (by simp) _).setCell (by simp) _⟩
   | false =>
    go_wp2_with (at_builtin;(refine wC _ rfl (.tmp 73) (.tmp 77) 26 rfl r 121 F (QV #[U ⟨#[]⟩,U ⟨#[]⟩]) 2 32 Tryz.underlying26 ZA O Q9 QZ rfl (by decide) _ (bV L ⟨t,tx⟩ t L.length).length ((bV L ⟨t,tx⟩ t L.length).flatMap bG) (by simp[Act.eval]) (A.alloc _) (T wr.heap.size 0 Z) 1 1 (bG ⟨t,tx⟩) (by simp[Act.eval]) rfl (df wr _ _ _) (by simp[bG,Value.oneCell']) (by unfold maxLen;omega) (by omega) (by have:=l.size;have:=f.out;simp;omega) ?_;intro vz wz g c o;obtain⟨gs,cs,rfl⟩:=eA g (by omega);have OZ:=ae g;have Q0:=ae (bg (l.alloc (by have:=l.size;have:=f.out;omega) (Q #[U t,U tx] 121)) c (by have:=l.size;have:=f.out;simp;omega) (fun j e=>(A.lt j e).1));have f8:=(Q0.cell (p:=(T X 0 Z)) u).trans c8;have f9:=(Q0.cell (p:=(T X 1 Z)) u).trans c9;have y8:=(Q0.frozen (p:=(T X 0 Z)) u).trans V.z0;obtain⟨r0,q0⟩:=(X4.below Q0 (by have:=f.out;have:=P.out;omega)).r0;obtain⟨r1,QY⟩:=(X4.below Q0 (by have:=f.out;have:=P.out;omega)).r1;clear g c o));have M:iq L ⟨t,tx⟩ t=bV L ⟨t,tx⟩ t L.length++[⟨t,tx⟩]:=by unfold iq;rw[eI (by rw[<-E.out];simp)]
    have OF:Hid (wz.ownsRow r 121 2 (Y (N (T gs 0 Z)) ((bV L ⟨t,tx⟩ t L.length).length+1) cs) LS.length (LS.flatMap bG)):=by show World.ownsRow _ _ _ _ _ _ _;rw[x.out,M,a8,HH];simpa using OZ.out
    have la:=f.out;have mv:=P.out;exact bp (v:=.tuple #[QV #[Y (N (T gs 0 Z)) ((bV L ⟨t,tx⟩ t L.length).length+1) cs,Y ta R.length Q2],I J 0]) (by simp[results,Tryz.results20,go_sem,r0,r1]) rfl ⟨_,_,R,rfl,aE (aS (aS (aS OF (R:=X) (j:=0) (by omega) _) (R:=w.heap.size+1) (j:=0) (by omega) _) (R:=w.heap.size+1) (j:=1) (by omega) _) (by omega),gH (((RX _ ((fd.trans (Q0.mono (by omega))).setCell (p:=(T X 0 Z)) ly _)).set (X:=w.heap.size+1) (j:=0) (by omega) _).set (X:=w.heap.size+1) (j:=1) (by omega) _) (by omega),HM,(((B4.trans (Q0.mono (by omega))).setCell (by simp;omega) _).setCell (by simp) _).setCell (by simp) _⟩
theorem tL (a0:Option Addr)(n0 c0:Nat)(f0:Nat->Source)(a1:Option Addr)(n1 c1:Nat)(f1:Nat->Target)(t:ByteArray)(w:H)(hn0:(n0:Int)<=1048576)(hn1:(n1:Int)<=1048576)(fd:SlSource w a0 n0 f0)(aq:SlTarget w a1 n1 f1)(M:∀ i,i<n1->bP (f1 i))(hs:∀ i,i<n1->∀ j,j<(f1 i).actN->((f1 i).act j).s.size<=maxLen):Calls Tryz.prog 29 #[QV #[Y a0 n0 c0,Y a1 n1 c1],U t] w fun e w'=>∃ v0 v1 R,e=QU (.tuple #[QV #[v0,v1],I J (lF n0 f0 n1 f1 t)])/\w'.ownsRow w.heap.size 121 2 v0 (jf n0 f0 n1 f1 t).length ((jf n0 f0 n1 f1 t).flatMap bG)/\TRow w' w.heap.size v1 R/\R.map (·.1)=lG n0 f0 n1 f1 t/\Below w.heap.size w w':=by
 have QY:=ae fd;have QW:=ae aq;have HF:=ae M;have HS:=ae hs;clear fd aq M hs;obtain⟨C,hC⟩:∃ C,C=bw n0 f0 n1 f1:=⟨_,rfl⟩
 obtain⟨D,O⟩:∃ D,D=lF n0 f0 n1 f1 t:=⟨_,rfl⟩
 obtain⟨LS,Q9⟩:∃ LS,LS=jf n0 f0 n1 f1 t:=⟨_,rfl⟩
 obtain⟨LT,QZ⟩:∃ LT,LT=lG n0 f0 n1 f1 t:=⟨_,rfl⟩
 rw[<-O,<-Q9,<-QZ];have HC:=ae hC;have HD:=ae (O.trans (by unfold lF;rw[<-hC]));have m:=ae (Q9.trans (by unfold jf;rw[<-O]));have n:=ae (QZ.trans (by unfold lG;rw[<-O]));clear hC O Q9 QZ;have F:=ae (((q9 w).alloc ly (Q #[Y a0 n0 c0,Y a1 n1 c1] 29)).alloc (by simp) (Q #[Y Z 0 0,Y Z 0 0] 29));have V:=ae (tF w (Y a0 n0 c0) (Y a1 n1 c1) 29);go_enter Tryz.func29,Tryz.ntmps29;go_wp2_with fail;generalize (w.alloc (Q #[Y a0 n0 c0,Y a1 n1 c1] 29)).alloc (Q #[Y Z 0 0,Y Z 0 0] 29)=W at F V ⊢;refine(fs a0 n0 c0 f0 a1 n1 c1 f1 _ hn0 hn1 (QY.below F ly) (QW.below F ly) HF HS).mono ?_;rintro e w1 ⟨rfl,b⟩;rw[<-HC.out];have S:=ae (V.below b V.lt');have B1:=ae (F.trans (b.mono F.size));clear b F V;by_cases hc:C=0;case neg =>
  have g:=HD.out;rw[gA hc] at g;have c:=m.out;rw[eI (by omega)] at c;have f:=n.out;rw[eI (by omega)] at f;subst g c f;have hc':(C == 0)=QQ:=by simpa using hc
  obtain⟨r0,QX⟩:=S.r0;obtain⟨r1,q1⟩:=S.r1;go_wp2;exact bp (v:=.tuple #[QV #[Y Z 0 0,Y Z 0 0],I J 1]) (by simp[results,Tryz.results29,go_sem,r0,r1]) rfl ⟨_,_,[],rfl,CP _ _ _ _,dr _ _,rfl,(B1.setCell (by simp) _).setCell (by simp) _⟩
 subst hc;have hz:=lH HC.symm;have HZ:=ae hz;clear hz HC;have Q2:=HD.out;rw[eI (by omega)] at Q2;have L:=ae Q2;clear Q2 HD;go_wp2_with fail;refine(cY t _).mono ?_;rintro e w2 ⟨rfl,b⟩;have y:=ae (S.below b S.lt');have ZA:=ae (B1.trans (b.mono B1.size));clear b S B1;cases hn:av t with
 | false =>have g:=L.out;rw[gA hn] at g;have c:=m.out;rw[eI (by omega)] at c;have f:=n.out;rw[eI (by omega)] at f;subst g c f;clear hn;obtain⟨r0,QX⟩:=y.r0;obtain⟨r1,q1⟩:=y.r1;go_wp2;exact bp (v:=.tuple #[QV #[Y Z 0 0,Y Z 0 0],I J 2]) (by simp[results,Tryz.results29,go_sem,r0,r1]) rfl ⟨_,_,[],rfl,CP _ _ _ _,dr _ _,rfl,(ZA.setCell (by simp) _).setCell (by simp) _⟩
 | true =>
  have P:=L.out;rw[eI (by simp[hn])] at P;have K:=ae P;clear P L hn;have G:=y.a0;have E:=y.a1;go_wp2_with fail;refine(tI a0 n0 c0 a1 n1 c1 f0 t _ hn0 (QY.below ZA ly)).mono ?_;rintro e wS ⟨r,rfl,A,b⟩;have B:=ae (y.below b y.lt');have Q0:=ae (ZA.trans (b.mono ZA.size));clear b y ZA G E;have G:=B.a0;have E:=B.a1;by_cases hr:r<0
  ·have bt:Hid (bF (nm0 f0) n0 t=QQ):=by show _=QQ;rw[<-A];simpa using hr
   clear A;go_wp2_with fail;refine(mK a0 n0 c0 a1 n1 c1 f1 t _ hn1 (QW.below Q0 ly)).mono ?_;rintro e w3 ⟨q,rfl,z,b⟩;have h:=ae (B.below b B.lt');have l:=ae (Q0.trans (b.mono Q0.size));clear b B Q0 G E;have G:=h.a0;have E:=h.a1;by_cases hq:q<0
   ·have hi:(bF (nm0 f0) n0 t || bF (nm1 f1) n1 t)=QQ:=by rw[bt.out,<-z];simpa using hq
    clear z;have g:=K.out;rw[gA hi] at g;have c:=m.out;rw[eI (by omega)] at c;have f:=n.out;rw[eI (by omega)] at f;subst g c f;obtain⟨r0,QX⟩:=h.r0;obtain⟨r1,q1⟩:=h.r1;go_wp2;exact bp (v:=.tuple #[QV #[Y Z 0 0,Y Z 0 0],I J 4]) (by simp[results,Tryz.results29,go_sem,r0,r1]) rfl ⟨_,_,[],rfl,CP _ _ _ _,dr _ _,rfl,(l.setCell (by simp) _).setCell (by simp) _⟩
   ·have hi:(bF (nm0 f0) n0 t || bF (nm1 f1) n1 t)=QR:=by rw[bt.out,<-z];simpa using hq
    clear z;have g:=K.out;rw[eI (by simp[hi])] at g;have c:=m.out;rw[gA g] at c;have f:=n.out;rw[gA g] at f;subst g c f;go_wp2_with fail;refine(eE a0 n0 c0 f0 a1 n1 c1 f1 t _ hn0 hn1 (QY.below l ly) (QW.below l ly) HF).mono ?_;rintro e w4 ⟨v0,v1,R,rfl,o,hR,hM,b⟩;have ZB:=ae (h.below b h.lt');have la:=h.lt;have B4:=ae (l.trans (b.mono l.size));obtain⟨p,x,rfl⟩:=aF o;obtain⟨ta,u,rfl⟩:=aF hR.own;have O4:=ae (aE (aS (aS (R:=w.heap.size+1) (j:=0) o (by omega) (Y p (keepS f0 t n0).length x)) (R:=w.heap.size+1) (j:=1) (by omega) (Y ta R.length u)) (base':=w.heap.size) (by omega));have T4:=ae (gH ((hR.set (X:=w.heap.size+1) (j:=0) (by omega) (Y p (keepS f0 t n0).length x)).set (X:=w.heap.size+1) (j:=1) (by omega) (Y ta R.length u)) (base':=w.heap.size) (by omega));have HM:=ae hM;clear o hR b hM G E;obtain⟨r0,QX⟩:=ZB.r0;obtain⟨r1,q1⟩:=ZB.r1;go_wp2;exact bp (v:=.tuple #[QV #[Y p (keepS f0 t n0).length x,Y ta R.length u],I J 0]) (by simp[results,Tryz.results29,go_sem,r0,r1]) rfl ⟨_,_,R,rfl,O4,T4,HM,(B4.setCell (by simp) _).setCell (by simp) _⟩
  ·have hi:(bF (nm0 f0) n0 t || bF (nm1 f1) n1 t)=QR:=by rw[<-A];have:decide (0<=r)=QR:=QJ (by omega);rw[this];rfl
   clear A;have h:=B;have l:=Q0;have g:=K.out;rw[eI (by simp[hi])] at g;have c:=m.out;rw[gA g] at c;have f:=n.out;rw[gA g] at f;subst g c f;go_wp2_with fail;refine(eE a0 n0 c0 f0 a1 n1 c1 f1 t _ hn0 hn1 (QY.below l ly) (QW.below l ly) HF).mono ?_;rintro e w4 ⟨v0,v1,R,rfl,o,hR,hM,b⟩;have ZB:=ae (h.below b h.lt');have la:=h.lt;have B4:=ae (l.trans (b.mono l.size));obtain⟨p,x,rfl⟩:=aF o;obtain⟨ta,u,rfl⟩:=aF hR.own;have O4:=ae (aE (aS (aS (R:=w.heap.size+1) (j:=0) o (by omega) (Y p (keepS f0 t n0).length x)) (R:=w.heap.size+1) (j:=1) (by omega) (Y ta R.length u)) (base':=w.heap.size) (by omega));have T4:=ae (gH ((hR.set (X:=w.heap.size+1) (j:=0) (by omega) (Y p (keepS f0 t n0).length x)).set (X:=w.heap.size+1) (j:=1) (by omega) (Y ta R.length u)) (base':=w.heap.size) (by omega));have HM:=ae hM;clear o hR b hM G E;obtain⟨r0,QX⟩:=ZB.r0;obtain⟨r1,q1⟩:=ZB.r1;go_wp2;exact bp (v:=.tuple #[QV #[Y p (keepS f0 t n0).length x,Y ta R.length u],I J 0]) (by simp[results,Tryz.results29,go_sem,r0,r1]) rfl ⟨_,_,R,rfl,O4,T4,HM,(B4.setCell (by simp) _).setCell (by simp) _⟩
end Go.Proofs.YtamacmnikdejeaaGreatDoor.Vp
