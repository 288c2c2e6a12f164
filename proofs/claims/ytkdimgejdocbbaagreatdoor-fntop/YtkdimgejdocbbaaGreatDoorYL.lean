import Derived.Test.YtkdimgejdocbbaaGreatDoorZU
import Derived.Test.YtkdimgejdocbbaaGreatDoorYG
set_option maxRecDepth 100000
set_option maxHeartbeats 8000000
open Go.Addr renaming mk->J
open Go.Value renaming slice->Y,string->U,int->N,agg->QE
open Option renaming none->Z,some->Q
open Go.Obj renaming cells->T
open Go.IntKind renaming i64->I
open Go renaming World->E,Value->QB,TypeId->QF
open Bool renaming false->D,true->QC
open Go.Ending renaming returned->QD
namespace Go.Proofs.YtkdimgejdocbbaaGreatDoor.Vp
open RowKit
def keepS (f:Nat->Source)(t:ByteArray)(k:Nat):List Source:=((List.range k).map f).filter fun x=>!(x.name.toList == t.toList)
def keepT (f:Nat->Target)(t:ByteArray)(k:Nat):List Target:=((List.range k).map f).filter fun x=>!(x.name.toList == t.toList)
theorem wG {f:Nat->Source}{t:ByteArray}{k:Nat}(h:((f k).name.toList == t.toList)=QC):keepS f t (k+1)=keepS f t k:=by simp only[keepS,JA,E2,LI];simp[h]
theorem wH {f:Nat->Source}{t:ByteArray}{k:Nat}(h:((f k).name.toList == t.toList)=D):keepS f t (k+1)=keepS f t k++[f k]:=by simp only[keepS,JA,E2,LI];simp[h]
theorem wI {f:Nat->Target}{t:ByteArray}{k:Nat}(h:((f k).name.toList == t.toList)=QC):keepT f t (k+1)=keepT f t k:=by simp only[keepT,JA,E2,LI];simp[h]
theorem wJ {f:Nat->Target}{t:ByteArray}{k:Nat}(h:((f k).name.toList == t.toList)=D):keepT f t (k+1)=keepT f t k++[f k]:=by simp only[keepT,JA,E2,LI];simp[h]
theorem ia (f:Nat->Source)(t:ByteArray)(k:Nat):(keepS f t k).length<=k:=by have:=MH (fun x:Source=>!(x.name.toList == t.toList)) ((List.range k).map f);simpa[keepS] using this
theorem lV (f:Nat->Target)(t:ByteArray)(k:Nat):(keepT f t k).length<=k:=by have:=MH (fun x:Target=>!(x.name.toList == t.toList)) ((List.range k).map f);simpa[keepT] using this
theorem dS {w:E}{d size n:Nat}{e:QF}{v:QB}{f:List QB}(h:w.ownsRow d e size v n f)(hn:0<n):∃ g b,v=Y (Q (J g 0 Z)) n b:=by
 rcases h.2 with ⟨_,h0⟩ | ⟨g,b,cur,rfl,_⟩
 ·omega
 ·exact⟨g,b,rfl⟩
theorem bh {w:E}{d size n:Nat}{e:QF}{v:QB}{f:List QB}(h:w.ownsRow d e size v n f):∃ a b,v=Y a n b:=by
 rcases h.2 with ⟨rfl,rfl⟩ | ⟨g,b,cur,rfl,_⟩
 ·exact⟨_,_,rfl⟩
 ·exact⟨_,_,rfl⟩
theorem cT (w:E)(x y:QB)(t:QF):∀ j u,[x,y][j]?=Q u->(w.alloc (T #[x,y] t)).cell? (((J w.heap.size 0 Z):Addr).add j)=Q u:=by
 intro j u b;rw[addr_add,C9];match j,b with
 | 0,b=>simp at b;subst b;simp
 | 1,b=>simp at b;subst b;simp
abbrev TR:=Target × Nat × Nat
def aV (r:TR):List QB:=[U r.1.name,Y (Q (J r.2.1 0 Z)) r.1.actN r.2.2]
structure TRow (w:E)(base:Nat)(v:QB)(R:List TR):Prop where
 own:w.ownsRow base 108 2 v R.length (R.flatMap aV)
 act:∀ r∈R,RowIns w r.2.1 0 r.1.actN r.1.act/\(∃ F,Cells w r.2.1 0 (r.1.actN*3) F)/\TypeAt w r.2.1 188/\base<=r.2.1
 up:R.Pairwise fun a b=>a.2.1≠b.2.1
theorem TypeAt.block {w b:E}{g:Nat}{e:QF}(h:TypeAt w g e)(hb:b.heap[g]?=w.heap[g]?):TypeAt b g e:=by obtain⟨c,d⟩:=h;exact⟨c,hb.trans d⟩
theorem RowIns.block {w b:E}{g off n:Nat}{f:Nat->Ins}(h:RowIns w g off n f)(hz:w.heap.size<=b.heap.size)(hb:b.heap[g]?=w.heap[g]?):RowIns b g off n f:=by refine⟨ll h.1 hz,fun i hi=>?_⟩;obtain⟨d,h1,h2⟩:=h.2 i hi;exact⟨(cq (a:=(J g _ Z)) hb).trans d,(cq (a:=(J g _ Z)) hb).trans h1,(cq (a:=(J g _ Z)) hb).trans h2⟩
theorem Cells.block {w d:E}{b off m:Nat}{F:Nat->QB}(h:Cells w b off m F)(hz:w.heap.size<=d.heap.size)(e:d.heap[b]?=w.heap[b]?):Cells d b off m F :=
 ⟨ll h.1 hz,fun j f=>⟨(cq (a:=(J b (off+j) Z)) e).trans (h.2 j f).1,(DC (a:=(J b (off+j) Z)) e).trans (h.2 j f).2⟩⟩
theorem TRow.below {w f:E}{b B:Nat}{v:QB}{R:List TR}(h:TRow w b v R)(hb:Below B w f)(d:w.heap.size<=B):TRow f b v R:=by refine⟨own_below h.own hb d,fun r j=>?_,h.up⟩;obtain⟨h1,⟨F,h2⟩,g,i⟩:=h.act r j;have e:=hb.block r.2.1 (ll h1.1 d);exact⟨h1.block hb.size e,⟨F,h2.block hb.size e⟩,g.block e,i⟩
theorem TRow.set {w:E}{b X j:Nat}{v:QB}{R:List TR}(h:TRow w b v R)(g:X<b)(u:QB):TRow (w.setCell (J X j Z) u) b v R:=by refine⟨aG h.own g u,fun r i=>?_,h.up⟩;obtain⟨h1,⟨F,h2⟩,d,f⟩:=h.act r i;have e:(w.setCell (J X j Z) u).heap[r.2.1]?=w.heap[r.2.1]?:=qh _ _ _ _ (by simp;omega);exact⟨h1.block (by simp) e,⟨F,h2.block (by simp) e⟩,d.block e,f⟩
theorem dT (w:E)(b:Nat):TRow w b (Y Z 0 0) []:=⟨E4 _ _ _ _,fun r d=>absurd d (by simp),List.Pairwise.nil⟩
theorem TRow.type {w:E}{b:Nat}{v:QB}{R:List TR}(h:TRow w b v R):∀ k,v.ownBlock=Q k->TypeAt w k 108:=by
 intro k d;rcases h.own.2 with ⟨rfl,_⟩ | ⟨g,cap,f,rfl,_,i,_⟩
 ·simp[Value.ownBlock] at d
 ·simp[Value.ownBlock] at d
  subst d;exact⟨f,i⟩
theorem TRow.more {w m p:E}{d g c:Nat}{v u:QB}{R:List TR}{x:Target}(h:TRow w d v R)(hb:Below w.heap.size w m)(hg:w.heap.size<=g)(l:d<=g)
  (s:m.ownsRow d 188 3 (Y (Q (J g 0 Z)) x.actN c) x.actN (cB x.act x.actN)) (q:p.ownsRow d 108 2 u (R.length+1) (R.flatMap aV++aV (x,g,c))) (f:m.grownBy p v.ownBlock):TRow p d u (R++[(x,g,c)]):=by
 have n:∀ k,TypeAt m k 188->Q k≠v.ownBlock:=fun k y e=>by have z:=(h.below hb lr).type k e.symm;exact ey y z (by decide) rfl
 have t:∀ r∈R,r.2.1<w.heap.size:=fun r i=>(h.act r i).1.1;refine⟨by simpa using q,fun r i=>?_,?_⟩
 ·rcases kP.1 i with i | i
  ·obtain⟨h1,⟨F,h2⟩,j,B⟩:=(h.below hb lr).act r i
   have e:=f.block r.2.1 h1.1 (n _ j);exact⟨h1.block f.size e,⟨F,h2.block f.size e⟩,j.block e,B⟩
  ·simp at i
   subst i;obtain⟨h1,F,h2⟩:=jN s;have j:=iX s;have e:=f.block g h1.1 (n _ j);exact⟨h1.block f.size e,⟨F,h2.block f.size e⟩,j.block e,l⟩
 ·rw[IX]
  refine⟨h.up,by simp,fun a A b o=>?_⟩;simp at o;subst o;have:=t a A;show a.2.1≠g;omega
theorem yg {w:E}{b0 n s0 s1 n0 n1:Nat}{i l:QF}{d k:QB}{p o:List QB}(q:w.ownsRow b0 i s0 d n0 p)(h1:w.ownsRow n l s1 k n1 o)(f:i≠l):d.ownBlock=Z∨d.ownBlock≠k.ownBlock:=by
 rcases q.2 with ⟨rfl,_⟩ | ⟨g,cap,j,rfl,_,m,_⟩
 ·exact .inl rfl
 ·right
  rcases h1.2 with ⟨rfl,_⟩ | ⟨g',cap',b,rfl,_,h,_⟩
  ·simp[Value.ownBlock]
  ·simp only[Value.ownBlock,ne_eq,EQ]
   exact ey ⟨j,m⟩ ⟨b,h⟩ f
structure Boxes (w:E)(h:Nat)(p0 p1 v0 v1:QB):Prop where
 lt:h+2<w.heap.size
 a0:w.cell? (J h 0 Z)=Q p0
 a1:w.cell? (J h 1 Z)=Q p1
 r0:w.cell? (J (h+1) 0 Z)=Q (Y Z 0 0)/\w.frozen? (J (h+1) 0 Z)=D
 r1:w.cell? (J (h+1) 1 Z)=Q (Y Z 0 0)/\w.frozen? (J (h+1) 1 Z)=D
 o0:w.cell? (J (h+1+1) 0 Z)=Q v0/\w.frozen? (J (h+1+1) 0 Z)=D
 o1:w.cell? (J (h+1+1) 1 Z)=Q v1/\w.frozen? (J (h+1+1) 1 Z)=D
theorem Boxes.below {w d:E}{h B:Nat}{m i l j:QB}(b:Boxes w h m i l j)(hb:Below B w d)(hB:h+3<=B):Boxes d h m i l j:=by have c:∀ k o,k<B->d.cell? (J k o Z)=w.cell? (J k o Z):=fun k o g=>hb.cell (p:=(J k o Z)) g;have f:∀ k o,k<B->d.frozen? (J k o Z)=w.frozen? (J k o Z):=fun k o g=>hb.frozen (p:=(J k o Z)) g;exact⟨ll b.lt hb.size,(c _ _ (by omega)).trans b.a0,(c _ _ (by omega)).trans b.a1,⟨(c _ _ (by omega)).trans b.r0.1,(f _ _ (by omega)).trans b.r0.2⟩,⟨(c _ _ (by omega)).trans b.r1.1,(f _ _ (by omega)).trans b.r1.2⟩,⟨(c _ _ (by omega)).trans b.o0.1,(f _ _ (by omega)).trans b.o0.2⟩,⟨(c _ _ (by omega)).trans b.o1.1,(f _ _ (by omega)).trans b.o1.2⟩⟩
theorem Boxes.set0 {w:E}{h:Nat}{g d j f:QB}(b:Boxes w h g d j f)(u:QB):Boxes (w.setCell (J (h+1+1) 0 Z) u) h g d u f:=by have e:∀ k o,k≠h+1+1->(w.setCell (J (h+1+1) 0 Z) u).cell? (J k o Z)=w.cell? (J k o Z):=fun k o i=>cell_far _ _ _ _ (by simpa using fun e=>i e.symm);exact⟨by simpa using b.lt,(e _ _ (by omega)).trans b.a0,(e _ _ (by omega)).trans b.a1,⟨(e _ _ (by omega)).trans b.r0.1,by simpa using b.r0.2⟩,⟨(e _ _ (by omega)).trans b.r1.1,by simpa using b.r1.2⟩,⟨AI _ _ _ (by rw[b.o0.1];rfl),by simpa using b.o0.2⟩,⟨(sq _ _ _ _ (by simp)).trans b.o1.1,by simpa using b.o1.2⟩⟩
theorem Boxes.set1 {w:E}{h:Nat}{g d f j:QB}(b:Boxes w h g d f j)(u:QB):Boxes (w.setCell (J (h+1+1) 1 Z) u) h g d f u:=by have e:∀ k o,k≠h+1+1->(w.setCell (J (h+1+1) 1 Z) u).cell? (J k o Z)=w.cell? (J k o Z):=fun k o i=>cell_far _ _ _ _ (by simpa using fun e=>i e.symm);exact⟨by simpa using b.lt,(e _ _ (by omega)).trans b.a0,(e _ _ (by omega)).trans b.a1,⟨(e _ _ (by omega)).trans b.r0.1,by simpa using b.r0.2⟩,⟨(e _ _ (by omega)).trans b.r1.1,by simpa using b.r1.2⟩,⟨(sq _ _ _ _ (by simp)).trans b.o0.1,by simpa using b.o0.2⟩,⟨AI _ _ _ (by rw[b.o1.1];rfl),by simpa using b.o1.2⟩⟩
theorem yh (w:E)(d b:QB)(t:QF):Boxes (((w.alloc (T #[d,b] t)).alloc (T #[Y Z 0 0,Y Z 0 0] t)).alloc (T #[Y Z 0 0,Y Z 0 0] t)) w.heap.size d b (Y Z 0 0) (Y Z 0 0):=by
 have A:Below (w.heap.size+1) (w.alloc (T #[d,b] t)) (((w.alloc (T #[d,b] t)).alloc (T #[Y Z 0 0,Y Z 0 0] t)).alloc (T #[Y Z 0 0,Y Z 0 0] t)):=(br.alloc (by simp) _).alloc (by simp) _;have C:Below (w.heap.size+1+1) ((w.alloc (T #[d,b] t)).alloc (T #[Y Z 0 0,Y Z 0 0] t)) (((w.alloc (T #[d,b] t)).alloc (T #[Y Z 0 0,Y Z 0 0] t)).alloc (T #[Y Z 0 0,Y Z 0 0] t)):=br.alloc (by simp) _;have hz:(w.alloc (T #[d,b] t)).heap.size=w.heap.size+1:=by simp
 have f:((w.alloc (T #[d,b] t)).alloc (T #[Y Z 0 0,Y Z 0 0] t)).heap.size=w.heap.size+1+1:=by simp
 refine⟨by simp,?_,?_,⟨?_,?_⟩,⟨?_,?_⟩,⟨?_,?_⟩,⟨?_,?_⟩⟩
 ·exact(A.cell (p:=(J w.heap.size 0 Z)) (lj _)).trans (by simp)
 ·exact(A.cell (p:=(J w.heap.size 1 Z)) (lj _)).trans (by simp)
 ·refine(C.cell (p:=(J (w.heap.size+1) 0 Z)) (lj _)).trans ?_
  rw[<-hz];simp
 ·refine(C.frozen (p:=(J (w.heap.size+1) 0 Z)) (lj _)).trans ?_
  rw[<-hz];simp
 ·refine(C.cell (p:=(J (w.heap.size+1) 1 Z)) (lj _)).trans ?_
  rw[<-hz];simp
 ·refine(C.frozen (p:=(J (w.heap.size+1) 1 Z)) (lj _)).trans ?_
  rw[<-hz];simp
 all_goals
  rw[<-f];clear A C hz f;generalize (w.alloc (T #[d,b] t)).alloc (T #[Y Z 0 0,Y Z 0 0] t)=W;simp
theorem iz {p:Nat->Bool}{n i:Nat}(h:aH p n=D)(hi:i<n):p i=D:=by
 cases e:p i with
 | false=>rfl
 | true=>rw[cO hi e] at h;cases h
theorem oA {n0:Nat}{f0:Nat->Source}{n1:Nat}{f1:Nat->Target}(h:aU n0 f0 n1 f1=0):aE (nm0 f0) n0=QC/\aE (nm1 f1) n1=QC/\∀ i,i<n1->1<=(f1 i).actN:=by
 unfold aU at h;split at h;· omega
 split at h;· omega
 split at h;· omega
 split at h;· omega
 split at h;· omega
 split at h;· omega
 split at h;· omega
 split at h;· omega
 rename_i f j _ _ g;refine⟨by simpa using f,by simpa using j,fun i hi=>?_⟩;have d:=iz (by simpa using g) hi;have b:valid (f1 i).act (f1 i).actN=QC:=by simpa[cy] using d
 have:=(bY b).2.1;omega
theorem jo {w:E}{b base':Nat}{v:QB}{R:List TR}(h:TRow w b v R)(hb:base'<=b):TRow w base' v R:=by refine⟨aI h.own hb,fun r f=>?_,h.up⟩;obtain⟨h1,h2,d,h4⟩:=h.act r f;exact⟨h1,h2,d,by omega⟩
structure Pair (w:E)(h:Nat)(p0 p1:QB):Prop where
 lt:h+1<w.heap.size
 a0:w.cell? (J h 0 Z)=Q p0
 a1:w.cell? (J h 1 Z)=Q p1
 r0:w.cell? (J (h+1) 0 Z)=Q (Y Z 0 0)/\w.frozen? (J (h+1) 0 Z)=D
 r1:w.cell? (J (h+1) 1 Z)=Q (Y Z 0 0)/\w.frozen? (J (h+1) 1 Z)=D
theorem Pair.lt' {w:E}{h:Nat}{d f:QB}(b:Pair w h d f):h+2<=w.heap.size:=b.lt
theorem Pair.below {w d:E}{h B:Nat}{j i:QB}(b:Pair w h j i)(hb:Below B w d)(hB:h+2<=B):Pair d h j i:=by have c:∀ k o,k<B->d.cell? (J k o Z)=w.cell? (J k o Z):=fun k o g=>hb.cell (p:=(J k o Z)) g;have f:∀ k o,k<B->d.frozen? (J k o Z)=w.frozen? (J k o Z):=fun k o g=>hb.frozen (p:=(J k o Z)) g;exact⟨ll b.lt hb.size,(c _ _ (by omega)).trans b.a0,(c _ _ (by omega)).trans b.a1,⟨(c _ _ (by omega)).trans b.r0.1,(f _ _ (by omega)).trans b.r0.2⟩,⟨(c _ _ (by omega)).trans b.r1.1,(f _ _ (by omega)).trans b.r1.2⟩⟩
theorem Ag (w:E)(d b:QB)(t:QF):Pair ((w.alloc (T #[d,b] t)).alloc (T #[Y Z 0 0,Y Z 0 0] t)) w.heap.size d b:=by
 have A:Below (w.heap.size+1) (w.alloc (T #[d,b] t)) ((w.alloc (T #[d,b] t)).alloc (T #[Y Z 0 0,Y Z 0 0] t)):=br.alloc (by simp) _;have hz:(w.alloc (T #[d,b] t)).heap.size=w.heap.size+1:=by simp
 refine⟨by simp,(A.cell (p:=(J w.heap.size 0 Z)) (lj _)).trans (by simp),(A.cell (p:=(J w.heap.size 1 Z)) (lj _)).trans (by simp),⟨?_,?_⟩,⟨?_,?_⟩⟩;all_goals
  rw[<-hz];clear A hz;generalize w.alloc (T #[d,b] t)=W;simp
def dfS:Source:=⟨⟨#[]⟩,⟨#[]⟩⟩
def dfT:Target:=⟨⟨#[]⟩,0,fun _=>⟨0,⟨#[]⟩,0⟩⟩
def dfR:TR:=(dfT,0,0)
def aP (L:List Source)(i:Nat):Source:=L.getD i dfS
def bo (L:List Target)(i:Nat):Target:=L.getD i dfT
theorem jO {w:E}{b c:Nat}{a:Option Addr}{L:List Source}(h:w.ownsRow b 104 2 (Y a L.length c) L.length (L.flatMap bC)):SlSource w a L.length (aP L):=by
 by_cases f:L.length=0
 ·exact .inl f
 ·obtain⟨g,c',e⟩:=dS h (by omega)
  simp at e;obtain⟨rfl,rfl⟩:=e;refine .inr ⟨g,0,rfl,(dR h).2,fun i hi=>?_⟩;have d:L[i]?=Q (aP L i):=by rw[aP,vF,gq hi];rfl
  refine⟨?_,?_⟩
  ·have:=(bv h (j:=i*2) (u:=U (aP L i).name) (by have:=cS bC 2 (fun _=>rfl) L i 0 (by omega) _ d;simpa[bC] using this)).1
   rwa[show 0+i*2=i*2 by omega]
  ·have:=(bv h (j:=i*2+1) (u:=U (aP L i).text) (by have:=cS bC 2 (fun _=>rfl) L i 1 (by omega) _ d;simpa[bC] using this)).1
   rwa[show 0+i*2+1=i*2+1 by omega]
theorem uK {R:List TR}{i:Nat}(hi:i<R.length):∃ r,R[i]?=Q r/\r∈R:=⟨R[i],gq hi,gz hi⟩
theorem sf {w:E}{d c:Nat}{a:Option Addr}{R:List TR}(h:TRow w d (Y a R.length c) R):SlTarget w a R.length (bo (R.map (·.1))):=by
 by_cases f:R.length=0
 ·exact .inl f
 ·obtain⟨g,c',e⟩:=dS h.own (by omega)
  simp at e;obtain⟨rfl,rfl⟩:=e;refine .inr ⟨g,0,rfl,(dR h.own).2,fun i hi=>?_⟩;obtain⟨r,b,l⟩:=uK hi;have k:bo (R.map (·.1)) i=r.1:=by rw[bo,vF,ID,b];rfl
  rw[k];obtain⟨h1,_,_,_⟩:=h.act r l;refine⟨?_,Q (J r.2.1 0 Z),r.2.2,?_,h1.sl⟩
  ·have:=(bv h.own (j:=i*2) (u:=U r.1.name) (by have:=cS aV 2 (fun _=>rfl) R i 0 (by omega) _ b;simpa[aV] using this)).1
   rwa[show 0+i*2=i*2 by omega]
  ·have:=(bv h.own (j:=i*2+1) (u:=Y (Q (J r.2.1 0 Z)) r.1.actN r.2.2) (by have:=cS aV 2 (fun _=>rfl) R i 1 (by omega) _ b;simpa[aV] using this)).1
   rwa[show 0+i*2+1=i*2+1 by omega]
theorem Ff {w i:E}{b size n:Nat}{e:QF}{v:QB}{d:List QB}{P:Nat->Prop}(h:w.ownsRow b e size v n d)(o:Touch P w i)(q:∀ k,v.ownBlock=Q k->¬ P k):i.ownsRow b e size v n d:=by
 refine⟨h.1,?_⟩;rcases h.2 with h | ⟨g,f,j,m,p,l,r⟩
 ·exact .inl h
 ·refine .inr ⟨g,f,j,m,p,(o.block g ?_ (q g (by rw[m];rfl))).trans l,r⟩
  exact(x4.1 l).1
theorem fM (a0:Option Addr)(n0 c0:Nat)(f0:Nat->Source)(a1:Option Addr)(n1 c1:Nat)(f1:Nat->Target)(t:ByteArray)(w:E)(hn0:(n0:Int)<=1048576)(hn1:(n1:Int)<=1048576)(QO:SlSource w a0 n0 f0)(H:SlTarget w a1 n1 f1)(A:∀ i,i<n1->aS (f1 i)):Calls Tryz.prog 68 #[QE #[Y a0 n0 c0,Y a1 n1 c1],U t] w fun e P=>∃ n r R,e=QD (QE #[n,r])/\P.ownsRow (w.heap.size+3) 104 2 n (keepS f0 t n0).length ((keepS f0 t n0).flatMap bC)/\TRow P (w.heap.size+3) r R/\R.map (·.1)=keepT f1 t n1/\Below w.heap.size w P:=by
 have V0:=ae QO;have V1:=ae H;have HF:=ae A;clear QO H A;obtain⟨fd,hi,n7,n8,aq⟩:=IQ ix;obtain⟨ex,hj,n6,mv,X⟩:=IQ ft;have A0:=ae ((((Qs w).alloc lr (T #[Y a0 n0 c0,Y a1 n1 c1] 26)).alloc (by simp) (T #[Y Z 0 0,Y Z 0 0] 26)).alloc (by simp;omega) (T #[Y Z 0 0,Y Z 0 0] 26));have QG:=ae (yh w (Y a0 n0 c0) (Y a1 n1 c1) 26);go_enter Tryz.func68,Tryz.ntmps68;go_wp2;generalize ((w.alloc (T #[Y a0 n0 c0,Y a1 n1 c1] 26)).alloc (T #[Y Z 0 0,Y Z 0 0] 26)).alloc (T #[Y Z 0 0,Y Z 0 0] 26)=W at A0 QG ⊢;go_loopw [6] (fun i wr=>∃ (k:Nat) (n:QB),k<=n0/\i=N I k/\Hid (Boxes wr w.heap.size (Y a0 n0 c0) (Y a1 n1 c1) n (Y Z 0 0))/\Hid (wr.ownsRow (w.heap.size+3) 104 2 n (keepS f0 t k).length ((keepS f0 t k).flatMap bC))/\Hid (Below w.heap.size w wr)) (fun i _=>n0 - (intOf i).toNat);case atStart=>exact⟨0,_,by omega,rfl,QG,E4 _ _ _ _,A0⟩
 case round =>
  obtain⟨k,n,hk,rfl,d,z,m⟩:=hrel;have QL:=d.lt;by_cases q:k<n0
  ·obtain⟨b,off,rfl,o⟩:=V0.resolve_left (by omega)
   obtain⟨S,M⟩:=(o.2 k q).below m o.1;clear o;have hll:=ia f0 t k;have QM:=d.a0;cases hq:((f0 k).name.toList == t.toList) with
   | true =>have u:=ae hq;go_wp2;exact⟨⟨k+1,n,by omega,by go_num,d,by show World.ownsRow _ _ _ _ _ _ _;rw[wG u.out];exact z,m⟩,by simp[intOf];omega⟩
   | false =>
    have u:=ae hq;obtain⟨x0,y0⟩:=d.o0;have QQ:=ae ((eI (w.heap.size+3) wr).drew.alloc (by simp;omega) (T #[U (f0 k).name,U (f0 k).text] 104));go_wp2_with fail
    go_region_law (first
     | (refine cZ rfl (.tmp 25) (.tmp 31) 23 rfl (w.heap.size+3) 104 fd (QE #[U ⟨#[]⟩,U ⟨#[]⟩]) 2 32 Tryz.underlying23 hi n7 n8 aq rfl (by decide) n (keepS f0 t k).length ((keepS f0 t k).flatMap bC) (by simp[Act.eval]) (z.drew.alloc _) (J wr.heap.size 0 Z) 1 1 (bC (f0 k)) (by simp[Act.eval]) rfl (cT wr.drew _ _ _) (by simp[bC,Value.oneCell']) (by unfold maxLen;omega) (by omega) (by simp<;>omega) ?_;intro v' w2 l f s;obtain⟨gs,cs,rfl⟩:=dS l (by omega);have O2:=ae l;have QK:=ae (bg QQ f (by simp<;>omega) (fun j e=>(z.lt j e).1));obtain⟨x2,y2⟩:=(d.below QK lr).o0;clear l f s))
    all_goals
     clear x0 y0 QM;go_wp2;exact⟨⟨k+1,_,by omega,by go_num,(d.below QK lr).set0 _,by show World.ownsRow _ _ _ _ _ _ _;rw[wH u.out,cM,IB];simpa using aG O2.out (by omega) _,(m.trans (QK.mono (by omega))).setCell (by simp;omega) _⟩,by simp[intOf];omega⟩
  ·have e:n0=k:=by omega
   subst e;have QM:=d.a0;have QP:=d.a1;go_wp2;clear QM QP q hk;generalize wr=W1 at d z m QL ⊢;go_loopw [7] (fun i wr=>∃ (k:Nat) (r:QB) (R:List TR),k<=n1/\i=N I k/\Hid (Boxes wr w.heap.size (Y a0 n0 c0) (Y a1 n1 c1) n r)/\Hid (wr.ownsRow (w.heap.size+3) 104 2 n (keepS f0 t n0).length ((keepS f0 t n0).flatMap bC))/\Hid (TRow wr (w.heap.size+3) r R)/\Hid (R.map (·.1)=keepT f1 t k)/\Hid (Below w.heap.size w wr)) (fun i _=>n1 - (intOf i).toNat);case atStart=>exact⟨0,_,[],by omega,rfl,d,z,dT _ _,rfl,m⟩
   case round =>
    clear d z m;obtain⟨k,r,R,hk,rfl,d,B,y,G,m⟩:=hrel;have hlt4:=d.lt;by_cases q:k<n1
    ·obtain⟨b,off,rfl,o⟩:=V1.resolve_left (by omega)
     obtain⟨S,ka,kc,M,hx⟩:=(o.2 k q).below m lr o.1;have HX:=ae hx;have la:=o.1;clear o hx;have hRl:R.length<=1048576:=by have h1:=vG List.length G.out;have h2:=lV f1 t k;simp at h1;omega
     have n9:((f1 k).actN:Int)<=1048576:=by have:=HF.out k q;unfold aS at this;omega
     have QP:=d.a1;have hbh:¬ b=w.heap.size+1+1:=by omega
     have hbh2:¬ w.heap.size+1+1=b:=by omega
     have K:b<wr.heap.size:=ll la m.size;cases hq:((f1 k).name.toList == t.toList) with
     | true =>have u:=ae hq;go_wp2;exact⟨⟨k+1,r,R,by omega,by go_num,d,B,y,by show _=keepT f1 t (k+1);rw[wI u.out];exact G,m⟩,by simp[intOf];omega⟩
     | false =>
      have u:=ae hq;obtain⟨x1,y1⟩:=d.o1;have QQ:=ae (Qs wr).drew;go_wp2_with fail
      go_region_law (first
       | (go_simp;go_at_call 86;refine(lD ka (f1 k).actN kc (f1 k).act _ n9 (HX.below QQ lr)).mono ?_;rintro e C ⟨g,c,rfl,O,V⟩;have h:=ae (QQ.trans (V.mono (by simp)));have bt:=(h.cell (p:=(J b (off+k*2) Z)) K).trans S;have ld:=(h.cell (p:=(J b (off+k*2+1) Z)) K).trans M;have QN:=(dR O).1;have OC:=ae (aI O (base':=w.heap.size+3) (by simp;omega));have QJ:wr.heap.size<=g:=(by simpa using QN);obtain⟨xC,yC⟩:=(d.below h (by omega)).o1;have kC:=(d.below h (by omega)).a1;have hzC:w.heap.size+1+1<C.heap.size:=(by have:=(d.below h (by omega)).lt;omega);have hyC:w.heap.size<C.heap.size:=(by omega);have hxC:b<C.heap.size:=(by have:=h.size;omega);clear V O QN)
       | (refine cZ rfl (.tmp 50) (.tmp 65) 24 rfl (w.heap.size+3) 108 ex (QE #[U ⟨#[]⟩,Y Z 0 0]) 2 40 Tryz.underlying24 hj n6 mv X rfl (by decide) r R.length (R.flatMap aV) (by simp[Act.eval]) ((y.below h lr).own.alloc _) (J C.heap.size 0 Z) 1 1 (aV (f1 k,g,c)) (by simp[Act.eval]) rfl (cT C _ _ _) (by simp[aV,Value.oneCell']) (by unfold maxLen;omega) (by omega) (by first | (simp;done) | (simp;omega) | (have:=h.size;simp;omega)) ?_;intro v' w2 l f s;obtain⟨gs,cs,rfl⟩:=dS l (by omega);have T2:=ae (y.more (x:=f1 k) (g:=g) (c:=c) (h.alloc h.size _) QJ (by omega) (OC.alloc _) l f);have L:=ae (bg ((h.mono (show w.heap.size+3<=wr.heap.size by omega)).alloc (by have:=h.size;omega) _) f (by have:=h.size;simp;omega) (fun j e=>(y.own.lt j e).1));obtain⟨x2,y2⟩:=(d.below L lr).o1;have QH:=ae ((own_below B (h.alloc h.size _) lr).kept f (yg (own_below B (h.alloc h.size (T #[U (f1 k).name,Y (Q (J g 0 Z)) (f1 k).actN c] 108)) lr) ((y.below h lr).own.alloc _) (by decide)));clear l f s))
      all_goals
       clear bt ld xC yC x1 y1 QP kC S M;go_wp2;exact⟨⟨k+1,_,R++[(f1 k,g,c)],by omega,by go_num,(d.below L lr).set1 _,aG QH (by omega) _,T2.set (by omega) _,by show _=keepT f1 t (k+1);rw[wJ u.out,E2,G.out];rfl,(m.trans (L.mono (by omega))).setCell (by simp;omega) _⟩,by simp[intOf];omega⟩
    ·have e:n1=k:=by omega
     subst e;have QP:=d.a1;obtain⟨sa,sc,rfl⟩:=bh B;obtain⟨ta,tc,rfl⟩:=bh y.own;obtain⟨r0,q0⟩:=d.r0;obtain⟨r1,q1⟩:=d.r1;obtain⟨m0,_⟩:=d.o0;obtain⟨m1,_⟩:=d.o1;go_wp2;exact bp (v:=QE #[Y sa _ sc,Y ta _ tc]) (by simp[results,Tryz.results68,go_sem,r0,r1]) rfl ⟨_,_,R,rfl,aG (aG B (by omega) _) (by omega) _,(y.set (by omega) _).set (by omega) _,G,(m.setCell (by simp) _).setCell (by simp) _⟩
theorem pa:∀ a b:List UInt8,decide (0<Lib.compareBytes a b)=Op.bytesLess b a
 | [],[]=>by simp[Lib.compareBytes,Op.bytesLess]
 | [],_ :: _=>by simp[Lib.compareBytes,Op.bytesLess]
 | _ :: _,[]=>by simp[Lib.compareBytes,Op.bytesLess]
 | a :: x,b :: y=>by
  have g:=pa x y;rw[Lib.compareBytes,Op.bytesLess,<-g];by_cases h1:a<b
  ·have d:¬ b=a:=fun e=>by subst e;exact(UInt8.lt_irrefl _ h1)
   have f:¬ b<a:=fun h=>UInt8.lt_irrefl _ (UInt8.lt_trans h1 h);simp[h1,d,f]
  ·rw[a8 h1]
   by_cases h2:b<a
   ·simp[h2]
   ·have d:a=b:=UInt8.le_antisymm (LY.1 h2) (LY.1 h1)
    subst d;simp[h1]
theorem ib {a b:ByteArray}(h:ay b a=QC):ay a b=D/\(a.toList == b.toList)=D:=by have h1:=mA a.data.toList b.data.toList;have h2:=kl a.data.toList b.data.toList;have d:=pa a.data.toList b.data.toList;simp only[ay,H7] at h ⊢;rw[<-h1,<-h2];rw[<-d] at h;simp at h ⊢;omega
theorem iZ {a b:ByteArray}(h:ay b a=D):ay a b=QC∨(ay a b=D/\(a.toList == b.toList)=QC):=by have h1:=mA a.data.toList b.data.toList;have h2:=kl a.data.toList b.data.toList;have d:=pa a.data.toList b.data.toList;simp only[ay,H7] at h ⊢;rw[<-h1,<-h2];rw[<-d] at h;simp only[IK,j4] at h ⊢;omega
structure Fa (w:E)(b:Nat)(v0 v1:QB):Prop where
 lt:b<w.heap.size
 c0:w.cell? (J b 0 Z)=Q v0
 c1:w.cell? (J b 1 Z)=Q v1
 z0:w.frozen? (J b 0 Z)=D
 z1:w.frozen? (J b 1 Z)=D
theorem sg (w:E)(b d:QB)(t:QF):Fa (w.alloc (T #[b,d] t)) w.heap.size b d:=⟨by simp,by simp,by simp,by simp,by simp⟩
def dq (L:List Source)(t:ByteArray):Nat->Bool
 | 0=>D
 | k+1=>dq L t k || ay t (aP L k).name
def bU (L:List Source)(x:Source)(t:ByteArray):Nat->List Source
 | 0=>[]
 | k+1=>if dq L t k=D/\ay t (aP L k).name=QC then bU L x t k++[x]++[aP L k] else bU L x t k++[aP L k]
def gB (L:List Source)(x:Source)(t:ByteArray):List Source:=if dq L t L.length=QC then bU L x t L.length else bU L x t L.length++[x]
theorem yi (L:List Source)(x:Source)(t:ByteArray)(k:Nat):(bU L x t k).length<=k+1/\(dq L t k=D->(bU L x t k).length=k):=by
 induction k with
 | zero=>simp[bU]
 | succ j b =>
  simp only[bU,dq];cases hd:dq L t j with
  | false =>
   have h1:=b.2 hd;cases hl:ay t (aP L j).name with
   | true=>simp[h1]
   | false=>simp[h1]
  | true =>have h1:=b.1;simp;omega
def iq (n0:Nat)(f0:Nat->Source)(n1:Nat)(f1:Nat->Target)(t tx:ByteArray):Int :=
 if aU n0 f0 n1 f1≠0 then 1 else if au t=D∨2000<(tx.size:Int) then 2 else if 200<=(keepS f0 t n0).length+(keepT f1 t n1).length then 3 else 0
def fc (n0:Nat)(f0:Nat->Source)(n1:Nat)(f1:Nat->Target)(t tx:ByteArray):List Source:=if iq n0 f0 n1 f1 t tx=0 then gB (keepS f0 t n0) ⟨t,tx⟩ t else []
def fk (n0:Nat)(f0:Nat->Source)(n1:Nat)(f1:Nat->Target)(t tx:ByteArray):List Target:=if iq n0 f0 n1 f1 t tx=0 then keepT f1 t n1 else []
theorem sj (a0:Option Addr)(n0 c0:Nat)(f0:Nat->Source)(a1:Option Addr)(n1 c1:Nat)(f1:Nat->Target)(t tx:ByteArray)(w:E)(hn0:(n0:Int)<=1048576)(hn1:(n1:Int)<=1048576)(ur:SlSource w a0 n0 f0)(sm:SlTarget w a1 n1 f1)(n9:∀ i,i<n1->aS (f1 i))(hs:∀ i,i<n1->∀ j,j<(f1 i).actN->((f1 i).act j).s.size<=maxLen):Calls Tryz.prog 12 #[QE #[Y a0 n0 c0,Y a1 n1 c1],U t,U tx] w fun e w'=>∃ v0 v1 R,e=QD (.tuple #[QE #[v0,v1],N I (iq n0 f0 n1 f1 t tx)])/\w'.ownsRow w.heap.size 104 2 v0 (fc n0 f0 n1 f1 t tx).length ((fc n0 f0 n1 f1 t tx).flatMap bC)/\TRow w' w.heap.size v1 R/\R.map (·.1)=fk n0 f0 n1 f1 t tx/\Below w.heap.size w w':=by
 have V0:=ae ur;have V1:=ae sm;have HF:=ae n9;have HS:=ae hs;clear ur sm n9 hs;obtain⟨S,QO,O,QM,QN⟩:=IQ ix;obtain⟨C,hC⟩:∃ C,C=aU n0 f0 n1 f1:=⟨_,rfl⟩
 obtain⟨QQ,hD⟩:∃ QQ,QQ=iq n0 f0 n1 f1 t tx:=⟨_,rfl⟩
 obtain⟨LS,mv⟩:∃ LS,LS=fc n0 f0 n1 f1 t tx:=⟨_,rfl⟩
 obtain⟨LT,n6⟩:∃ LT,LT=fk n0 f0 n1 f1 t tx:=⟨_,rfl⟩
 rw[<-hD,<-mv,<-n6];have HC:=ae hC;have HD:=ae (hD.trans (by unfold iq;rw[<-hC]));have x:=ae (mv.trans (by unfold fc;rw[<-hD]));have ex:=ae (n6.trans (by unfold fk;rw[<-hD]));clear hC hD mv n6;have A0:=ae (((Qs w).alloc lr (T #[Y a0 n0 c0,Y a1 n1 c1] 26)).alloc (by simp) (T #[Y Z 0 0,Y Z 0 0] 26));have X0:=ae (Ag w (Y a0 n0 c0) (Y a1 n1 c1) 26);go_enter Tryz.func12,Tryz.ntmps12;go_wp2_with fail;generalize (w.alloc (T #[Y a0 n0 c0,Y a1 n1 c1] 26)).alloc (T #[Y Z 0 0,Y Z 0 0] 26)=W at A0 X0 ⊢;refine(fL a0 n0 c0 f0 a1 n1 c1 f1 _ hn0 hn1 (V0.below A0 lr) (V1.below A0 lr) HF HS).mono ?_;rintro e w1 ⟨rfl,z⟩;rw[<-HC.out];have X1:=ae (X0.below z X0.lt');have B1:=ae (A0.trans (z.mono A0.size));clear z A0 X0;by_cases hc:C=0;case neg =>
  have hd:=HD.out;rw[eT hc] at hd;have r:=x.out;rw[a8 (by omega)] at r;have o:=ex.out;rw[a8 (by omega)] at o;subst hd r o;have hc':(C == 0)=D:=by simpa using hc
  obtain⟨r0,q0⟩:=X1.r0;obtain⟨r1,QJ⟩:=X1.r1;go_wp2;exact bp (v:=.tuple #[QE #[Y Z 0 0,Y Z 0 0],N I 1]) (by simp[results,Tryz.results12,go_sem,r0,r1]) rfl ⟨_,_,[],rfl,E4 _ _ _ _,dT _ _,rfl,(B1.setCell (by simp) _).setCell (by simp) _⟩
 subst hc;have hz:=oA HC.symm;have HZ:=ae hz;clear hz HC;have n8:=HD.out;rw[a8 (by omega)] at n8;have ph:=ae n8;clear n8 HD;go_wp2_with fail;refine(cX t _).mono ?_;rintro e w2 ⟨rfl,z⟩;have P:=ae (X1.below z X1.lt');have QG:=ae (B1.trans (z.mono B1.size));clear z X1 B1;by_cases n:au t=D∨2000<(tx.size:Int)
 ·have hd:=ph.out
  rw[eT n] at hd;have r:=x.out;rw[a8 (by omega)] at r;have o:=ex.out;rw[a8 (by omega)] at o;subst hd r o;obtain⟨r0,q0⟩:=P.r0;obtain⟨r1,QJ⟩:=P.r1;cases hn:au t with
  | false =>clear n;go_wp2;exact bp (v:=.tuple #[QE #[Y Z 0 0,Y Z 0 0],N I 2]) (by simp[results,Tryz.results12,go_sem,r0,r1]) rfl ⟨_,_,[],rfl,E4 _ _ _ _,dT _ _,rfl,(QG.setCell (by simp) _).setCell (by simp) _⟩
  | true =>have Bk:(2000:Int)<tx.size:=n.resolve_left (by simp[hn]);clear n;go_wp2;exact bp (v:=.tuple #[QE #[Y Z 0 0,Y Z 0 0],N I 2]) (by simp[results,Tryz.results12,go_sem,r0,r1]) rfl ⟨_,_,[],rfl,E4 _ _ _ _,dT _ _,rfl,(QG.setCell (by simp) _).setCell (by simp) _⟩
 have n7:=ph.out;rw[a8 n] at n7;have th:=ae n7;have hn:au t=QC:=by
  cases h:au t with
  | true=>rfl
  | false=>exact absurd (.inl h) n
 have Bk:¬ (2000:Int)<tx.size:=fun h=>n (.inr h);clear n7 ph n;have k0:=P.a0;have k1:=P.a1;rw[hn];go_wp2_with fail;refine(fM a0 n0 c0 f0 a1 n1 c1 f1 t _ hn0 hn1 (V0.below QG lr) (V1.below QG lr) HF).mono ?_;rintro e A ⟨v0,v1,R,rfl,hO,hR,hM,z⟩;have hlt2:=P.lt;have X3:=ae (P.below z P.lt');have B3:=ae (QG.trans (z.mono QG.size));obtain⟨sa,sc,rfl⟩:=bh hO;obtain⟨QH,QK,rfl⟩:=bh hR.own;have eR:R.length=(keepT f1 t n1).length:=by rw[<-hM];simp
 have DE:=ia f0 t n0;have DA:=lV f1 t n1;obtain⟨L,hL⟩:∃ L,L=keepS f0 t n0:=⟨_,rfl⟩
 obtain⟨K,hK⟩:∃ K,K=keepT f1 t n1:=⟨_,rfl⟩
 rw[<-hL] at hO DE ⊢;rw[<-hK] at hM DA eR;have G:=th.out;rw[<-hL,<-hK] at G;have r:=x.out;rw[<-hL] at r;have o:=ex.out;rw[<-hK] at o;have ER:=ae eR;have hlr:R.length<=n1:=by omega
 clear th x ex hL hK z k0 k1 hn P QG eR;have O3:=ae (aI hO (base':=w.heap.size) (by omega));have RX:Hid (∀ w',Below A.heap.size A w'->TRow w' (w2.heap.size+3) (Y QH R.length QK) R):=fun w' hb=>hR.below hb lr;have HM:=ae hM;have hll:(L.length:Int)<=1048576:=by omega
 clear hO hR hM;have DB:=ae ((Qs A).alloc lr (T #[Y sa L.length sc,Y QH R.length QK] 26));have K8:=ae (sg A (Y sa L.length sc) (Y QH R.length QK) 26);have X4:=ae (X3.below DB X3.lt');have B4:=ae (B3.trans (DB.mono B3.size));have O4:=ae (own_below O3 DB lr);have fd:=ae DB.out;have ro:w.heap.size+1<A.heap.size:=X3.lt;have c8:=K8.c0;have c9:=K8.c1;clear O3 DB;by_cases hc3:(200:Int)<=L.length+R.length
 ·rw[eT (by have:=ER.out;omega)] at G
  rw[a8 (by omega)] at r o;subst G r o;obtain⟨r0,q0⟩:=X3.r0;obtain⟨r1,QJ⟩:=X3.r1;clear c8 c9;go_wp2;exact bp (v:=.tuple #[QE #[Y Z 0 0,Y Z 0 0],N I 3]) (by simp[results,Tryz.results12,go_sem,r0,r1,ro]) rfl ⟨_,_,[],rfl,E4 _ _ _ _,dT _ _,rfl,((B3.setCell (by simp) _).setCell (by simp) _).alloc (by have:=B3.size;simp;omega) _⟩
 clear X3 B3;rw[a8 (by have:=ER.out;omega)] at G;rw[eT G] at r o;subst G o;have x:=ae r;clear r;go_wp2;have M:(A.alloc (T #[Y sa L.length sc,Y QH R.length QK] 26)).heap.size=A.heap.size+1:=by simp
 generalize A.alloc (T #[Y sa L.length sc,Y QH R.length QK] 26)=w4 at K8 X4 B4 O4 fd c8 c9 M ⊢;generalize A.heap.size=X at K8 c8 c9 ro M RX fd ⊢;obtain⟨u,qr⟩:∃ u,u=w4.heap.size:=⟨_,rfl⟩
 have E0:Hid (Below u w4 (w4.alloc (T #[] 104))):=by rw[qr];exact br.alloc lr _
 have W0:Hid ((w4.alloc (T #[] 104)).ownsRow u 104 2 (Y (Q (J (X+1) 0 Z)) 0 0) 0 []):=by rw[<-M];exact JC w4 #[] 0 (by omega) (by unfold maxLen;omega) rfl
 have y:X<u:=by have:=K8.lt;omega
 have g:=ae qr;have H:=ae M;clear qr M;go_loopw [9,10,11] (fun v d i wr=>∃ (k:Nat) (db:Bool),k<=L.length/\i=N I k/\d=.bool db/\Hid (db=dq L t k)/\Hid (wr.ownsRow u 104 2 v (bU L ⟨t,tx⟩ t k).length ((bU L ⟨t,tx⟩ t k).flatMap bC))/\Hid (Below u w4 wr)) (fun _ _ i _=>L.length - (intOf i).toNat);case atStart=>exact⟨0,D,by omega,rfl,rfl,rfl,W0,E0⟩
 case round =>
  obtain⟨k,db,hk,rfl,rfl,QP,B,m⟩:=hrel;have e8:=(m.cell (p:=(J X 0 Z)) y).trans c8;have At:=yi L ⟨t,tx⟩ t k;obtain⟨hlen1,bt⟩:=At;have HL2:=ae bt;clear bt;by_cases o:k<L.length
  ·obtain⟨b,off,rfl,hr⟩:=(jO O4).resolve_left (by omega)
   obtain⟨p0,p1⟩:=hr.2 k o;have la:b<u:=by have:=hr.1;have:=g.out;omega
   have d0:=(m.cell (p:=(J b (off+k*2) Z)) la).trans p0;have d1:=(m.cell (p:=(J b (off+k*2+1) Z)) la).trans p1;clear hr;cases db with
   | true =>
    have HI:Hid (bU L ⟨t,tx⟩ t (k+1)=bU L ⟨t,tx⟩ t k++[aP L k]):=by show(if _ then _ else _)=_;rw[a8 (by rw[<-QP.out];simp)]
    have HN:Hid (QC=dq L t (k+1)):=by show QC=(dq L t k || _);rw[<-QP.out];rfl
    go_wp2_with (at_builtin;(refine CL _ rfl (.tmp 63) (.tmp 69) 23 rfl u 104 S (QE #[U ⟨#[]⟩,U ⟨#[]⟩]) 2 32 Tryz.underlying23 QO O QM QN rfl (by decide) _ (bU L ⟨t,tx⟩ t k).length ((bU L ⟨t,tx⟩ t k).flatMap bC) (by simp[Act.eval]) (B.alloc _) (J wr.heap.size 0 Z) 1 1 (bC (aP L k)) (by simp[Act.eval]) rfl (cT wr _ _ _) (by simp[bC,Value.oneCell']) (by unfold maxLen;omega) (by omega) (by have:=m.size;have:=g.out;simp;omega) ?_;intro vy wy l f q;have OY:=ae l;have BY:=ae (bg (m.alloc (by have:=m.size;have:=g.out;omega) (T #[U (aP L k).name,U (aP L k).text] 104)) f (by have:=m.size;have:=g.out;simp;omega) (fun j e=>(B.lt j e).1));clear l f q));exact⟨⟨k+1,QC,by omega,by go_num,rfl,HN,by show World.ownsRow _ _ _ _ _ _ _;rw[HI.out,cM,IB];simpa using OY.out,BY⟩,by simp[intOf];omega⟩
   | false =>
    cases hq:ay t (aP L k).name with
    | true =>
     have HI:Hid (bU L ⟨t,tx⟩ t (k+1)=bU L ⟨t,tx⟩ t k++[⟨t,tx⟩]++[aP L k]):=by show(if _ then _ else _)=_;rw[eT ⟨QP.symm,hq⟩]
     have HN:Hid (QC=dq L t (k+1)):=by show QC=(dq L t k || _);rw[hq];simp
     obtain⟨QJ,q2⟩:=ib hq;clear hq;go_wp2_with (at_builtin;first | (refine CL _ rfl (.tmp 57) (.tmp 61) 23 rfl u 104 S (QE #[U ⟨#[]⟩,U ⟨#[]⟩]) 2 32 Tryz.underlying23 QO O QM QN rfl (by decide) _ (bU L ⟨t,tx⟩ t k).length ((bU L ⟨t,tx⟩ t k).flatMap bC) (by simp[Act.eval]) (B.alloc _) (J wr.heap.size 0 Z) 1 1 (bC ⟨t,tx⟩) (by simp[Act.eval]) rfl (cT wr _ _ _) (by simp[bC,Value.oneCell']) (by unfold maxLen;omega) (by omega) (by have:=m.size;have:=g.out;simp;omega) ?_;intro vx wx l f q;have OX:=ae l;have V:=ae (bg (m.alloc (by have:=m.size;have:=g.out;omega) (T #[U t,U tx] 104)) f (by have:=m.size;have:=g.out;simp;omega) (fun j e=>(B.lt j e).1));have f8:=(V.cell (p:=(J X 0 Z)) y).trans c8;have g0:=(V.cell (p:=(J b (off+k*2) Z)) la).trans p0;have g1:=(V.cell (p:=(J b (off+k*2+1) Z)) la).trans p1;clear l f q) | (refine CL _ rfl (.tmp 63) (.tmp 69) 23 rfl u 104 S (QE #[U ⟨#[]⟩,U ⟨#[]⟩]) 2 32 Tryz.underlying23 QO O QM QN rfl (by decide) _ ((bU L ⟨t,tx⟩ t k).length+1) ((bU L ⟨t,tx⟩ t k).flatMap bC++bC ⟨t,tx⟩) (by simp[Act.eval]) (OX.alloc _) (J wx.heap.size 0 Z) 1 1 (bC (aP L k)) (by simp[Act.eval]) rfl (cT wx _ _ _) (by simp[bC,Value.oneCell']) (by unfold maxLen;omega) (by omega) (by have:=V.size;have:=g.out;simp;omega) ?_;intro vy wy l f q;have OY:=ae l;have BY:=ae (bg (V.alloc (by have:=V.size;have:=g.out;omega) (T #[U (aP L k).name,U (aP L k).text] 104)) f (by have:=V.size;have:=g.out;simp;omega) (fun j e=>(OX.lt j e).1));clear l f q));exact⟨⟨k+1,QC,by omega,by go_num,rfl,HN,by show World.ownsRow _ _ _ _ _ _ _;rw[HI.out,cM,cM,IB,IB];simpa using OY.out,BY⟩,by simp[intOf];omega⟩
    | false =>
     have HI:Hid (bU L ⟨t,tx⟩ t (k+1)=bU L ⟨t,tx⟩ t k++[aP L k]):=by show(if _ then _ else _)=_;rw[a8 (by rw[hq];simp)]
     have HN:Hid (D=dq L t (k+1)):=by show D=(dq L t k || _);rw[<-QP.out,hq];rfl
     have HQ:=ae (iZ hq);clear hq;rcases HQ.out with QJ | ⟨QJ,q2⟩
     all_goals
      go_wp2_with (at_builtin;(refine CL _ rfl (.tmp 63) (.tmp 69) 23 rfl u 104 S (QE #[U ⟨#[]⟩,U ⟨#[]⟩]) 2 32 Tryz.underlying23 QO O QM QN rfl (by decide) _ (bU L ⟨t,tx⟩ t k).length ((bU L ⟨t,tx⟩ t k).flatMap bC) (by simp[Act.eval]) (B.alloc _) (J wr.heap.size 0 Z) 1 1 (bC (aP L k)) (by simp[Act.eval]) rfl (cT wr _ _ _) (by simp[bC,Value.oneCell']) (by unfold maxLen;omega) (by omega) (by have:=m.size;have:=g.out;simp;omega) ?_;intro vy wy l f q;have OY:=ae l;have BY:=ae (bg (m.alloc (by have:=m.size;have:=g.out;omega) (T #[U (aP L k).name,U (aP L k).text] 104)) f (by have:=m.size;have:=g.out;simp;omega) (fun j e=>(B.lt j e).1));clear l f q));exact⟨⟨k+1,D,by omega,by go_num,rfl,HN,by show World.ownsRow _ _ _ _ _ _ _;rw[HI.out,cM,IB];simpa using OY.out,BY⟩,by simp[intOf];omega⟩
  ·have e:L.length=k:=by omega
   subst e;cases db with
   | true =>
    have QL:gB L ⟨t,tx⟩ t=bU L ⟨t,tx⟩ t L.length:=by unfold gB;rw[eT QP.symm]
    obtain⟨va,vc,rfl⟩:=bh B;have OF:Hid (wr.ownsRow u 104 2 (Y va (bU L ⟨t,tx⟩ t L.length).length vc) LS.length (LS.flatMap bC)):=by show World.ownsRow _ _ _ _ _ _ _;rw[x.out,QL];exact B
    have ld:=g.out;have aq:=H.out;have H1:=ae ld;have H2:=ae aq;have H3:=ae QL;have e9:=(m.cell (p:=(J X 1 Z)) y).trans c9;have y8:=(m.frozen (p:=(J X 0 Z)) y).trans K8.z0;obtain⟨r0,q0⟩:=(X4.below m (by omega)).r0;obtain⟨r1,QJ⟩:=(X4.below m (by omega)).r1;clear ld aq QL;go_wp2;have ld:=g.out;have aq:=H.out;exact bp (v:=.tuple #[QE #[Y va (bU L ⟨t,tx⟩ t L.length).length vc,Y QH R.length QK],N I 0]) (by simp[results,Tryz.results12,go_sem,r0,r1]) rfl ⟨_,_,R,rfl,aI (aG (aG (aG OF (R:=X) (j:=0) (by omega) _) (R:=w.heap.size+1) (j:=0) (by omega) _) (R:=w.heap.size+1) (j:=1) (by omega) _) (by omega),jo (((RX _ ((fd.trans (m.mono (by omega))).setCell (p:=(J X 0 Z)) lr _)).set (X:=w.heap.size+1) (j:=0) (by omega) _).set (X:=w.heap.size+1) (j:=1) (by omega) _) (by omega),HM,(((B4.trans (m.mono (by omega))).setCell (by simp;omega) _).setCell (by simp) _).setCell (by simp) _⟩
   | false =>
    go_wp2_with (at_builtin;(refine CL _ rfl (.tmp 73) (.tmp 77) 23 rfl u 104 S (QE #[U ⟨#[]⟩,U ⟨#[]⟩]) 2 32 Tryz.underlying23 QO O QM QN rfl (by decide) _ (bU L ⟨t,tx⟩ t L.length).length ((bU L ⟨t,tx⟩ t L.length).flatMap bC) (by simp[Act.eval]) (B.alloc _) (J wr.heap.size 0 Z) 1 1 (bC ⟨t,tx⟩) (by simp[Act.eval]) rfl (cT wr _ _ _) (by simp[bC,Value.oneCell']) (by unfold maxLen;omega) (by omega) (by have:=m.size;have:=g.out;simp;omega) ?_;intro vz wz l f q;obtain⟨gs,cs,rfl⟩:=dS l (by omega);have OZ:=ae l;have BZ:=ae (bg (m.alloc (by have:=m.size;have:=g.out;omega) (T #[U t,U tx] 104)) f (by have:=m.size;have:=g.out;simp;omega) (fun j e=>(B.lt j e).1));have f8:=(BZ.cell (p:=(J X 0 Z)) y).trans c8;have f9:=(BZ.cell (p:=(J X 1 Z)) y).trans c9;have y8:=(BZ.frozen (p:=(J X 0 Z)) y).trans K8.z0;obtain⟨r0,q0⟩:=(X4.below BZ (by have:=g.out;have:=H.out;omega)).r0;obtain⟨r1,QJ⟩:=(X4.below BZ (by have:=g.out;have:=H.out;omega)).r1;clear l f q));have QL:gB L ⟨t,tx⟩ t=bU L ⟨t,tx⟩ t L.length++[⟨t,tx⟩]:=by unfold gB;rw[a8 (by rw[<-QP.out];simp)]
    have OF:Hid (wz.ownsRow u 104 2 (Y (Q (J gs 0 Z)) ((bU L ⟨t,tx⟩ t L.length).length+1) cs) LS.length (LS.flatMap bC)):=by show World.ownsRow _ _ _ _ _ _ _;rw[x.out,QL,cM,IB];simpa using OZ.out
    have ld:=g.out;have aq:=H.out;exact bp (v:=.tuple #[QE #[Y (Q (J gs 0 Z)) ((bU L ⟨t,tx⟩ t L.length).length+1) cs,Y QH R.length QK],N I 0]) (by simp[results,Tryz.results12,go_sem,r0,r1]) rfl ⟨_,_,R,rfl,aI (aG (aG (aG OF (R:=X) (j:=0) (by omega) _) (R:=w.heap.size+1) (j:=0) (by omega) _) (R:=w.heap.size+1) (j:=1) (by omega) _) (by omega),jo (((RX _ ((fd.trans (BZ.mono (by omega))).setCell (p:=(J X 0 Z)) lr _)).set (X:=w.heap.size+1) (j:=0) (by omega) _).set (X:=w.heap.size+1) (j:=1) (by omega) _) (by omega),HM,(((B4.trans (BZ.mono (by omega))).setCell (by simp;omega) _).setCell (by simp) _).setCell (by simp) _⟩
theorem cJ {L:List Source}{i:Nat}(h:i<L.length):aP L i=L[i]:=by rw[aP,vF,gq h];rfl
theorem gC {g:Nat->ByteArray}{n:Nat}(h:∀ i j,i<j->j<n->ay (g i) (g j)=QC):aE g n=QC:=by
 induction n with
 | zero=>rfl
 | succ k d =>
  have h1:=d (fun i j b hj=>h i j b (by omega));cases k with
  | zero=>rfl
  | succ m =>show(aE g (m+1) && _)=QC;rw[h1];exact h m (m+1) (by omega) (by omega)
theorem lW {f:Nat->Source}{n:Nat}{t:ByteArray}:∀ y∈keepS f t n,(y.name.toList == t.toList)=D:=by intro y b;simpa using(M2.1 b).2
theorem km {L:List Source}{x:Source}{t:ByteArray}{i:Nat}(hi:i<=L.length)(h1:∀ m,m<i->ay (nm0 (aP L) m) t=QC):∀ k,k<=i->dq L t k=D/\bU L x t k=L.take k
 | 0,_=>⟨rfl,rfl⟩
 | k+1,hk=>by
  obtain⟨d,b⟩:=km (x:=x) hi h1 k (by omega);have f:ay t (aP L k).name=D:=(ib (h1 k (by omega))).1;refine⟨?_,?_⟩
  ·show(dq L t k || ay t (aP L k).name)=D
   rw[d,f];rfl
  ·show(if _ then _ else _)=_
   rw[a8 (by rw[f];simp),b,cJ (by omega)];exact JZ (by omega)
theorem oB {L:List Source}{x:Source}{t:ByteArray}{i:Nat}(hi:i<=L.length)(h1:∀ m,m<i->ay (nm0 (aP L) m) t=QC)(h2:∀ m,i<=m->m<L.length->ay (nm0 (aP L) m) t=D)(j:∀ y∈L,(y.name.toList == t.toList)=D):∀ d,i+d+1<=L.length->dq L t (i+d+1)=QC/\bU L x t (i+d+1)=L.take i++x :: (L.drop i).take (d+1)
 | 0,hd=>by
  obtain⟨a1,g⟩:=km (x:=x) hi h1 i lr;have b:i<L.length:=by omega
  have k:ay t (aP L i).name=QC:=by
   cases h:ay t (aP L i).name with
   | true=>rfl
   | false =>
    rcases iZ h with f | ⟨_,f⟩
    ·have:=h2 i lr b
     rw[show nm0 (aP L) i=(aP L i).name from rfl,f] at this;cases this
    ·rw[cJ b,j _ (gz b)] at f
     cases f
  refine⟨?_,?_⟩
  ·show(dq L t i || ay t (aP L i).name)=QC
   rw[k];simp
  ·show(if _ then _ else _)=_
   have e:(L.drop i).take (0+1)=[L[i]]:=by rw[KZ b];rfl
   rw[eT ⟨a1,k⟩,g,cJ b,e];simp
 | d+1,hd=>by
  obtain⟨a1,g⟩:=oB (x:=x) hi h1 h2 j d (by omega);refine⟨?_,?_⟩
  ·show(dq L t (i+d+1) || _)=QC
   rw[a1];rfl
  ·show(if _ then _ else _)=_
   rw[a8 (by rw[show i+(d+1)=i+d+1 from rfl,a1];simp)];show bU L x t (i+d+1)++[aP L (i+d+1)]=_;have l:d+1<(L.drop i).length:=by rw[IH];omega
   rw[g,cJ (by omega),<-JZ l,LZ];simp[LE]
theorem uL {L:List Source}{x:Source}{t:ByteArray}{i:Nat}(hi:i<=L.length)(h1:∀ m,m<i->ay (nm0 (aP L) m) t=QC)(h2:∀ m,i<=m->m<L.length->ay (nm0 (aP L) m) t=D)(h:∀ y∈L,(y.name.toList == t.toList)=D):gB L x t=L.take i++x :: L.drop i:=by
 by_cases f:i=L.length
 ·subst f
  obtain⟨a1,b⟩:=km (x:=x) hi h1 L.length lr;unfold gB;rw[a8 (by rw[a1];simp),b];simp
 ·obtain⟨d,g⟩:∃ d,L.length=i+d+1:=⟨L.length - i - 1,by omega⟩
  obtain⟨a1,b⟩:=oB (x:=x) hi h1 h2 h d (by omega);unfold gB;have e:(L.drop i).take (d+1)=L.drop i:=IY (by rw[IH];omega);rw[g,eT a1,b,e]
def fN (n0:Nat)(f0:Nat->Source)(n1:Nat)(f1:Nat->Target)(t:ByteArray)(b:Bool):Int :=
 if aU n0 f0 n1 f1≠0 then 1 else if au t=D∨b=D then 2 else if 200<=(keepS f0 t n0).length+(keepT f1 t n1).length then 3 else 0
def dL (g:Nat->ByteArray)(t:ByteArray):Nat->Bool
 | 0=>D
 | k+1=>dL g t k || ay t (g k)
def eB {b:Type}(g:Nat->ByteArray)(F:Nat->b)(x:b)(t:ByteArray):Nat->List b
 | 0=>[]
 | k+1=>if dL g t k=D/\ay t (g k)=QC then eB g F x t k++[x]++[F k] else eB g F x t k++[F k]
def jE {b:Type}(g:Nat->ByteArray)(F:Nat->b)(x:b)(t:ByteArray)(n:Nat):List b:=if dL g t n=QC then eB g F x t n else eB g F x t n++[x]
theorem Ah {b:Type}(g:Nat->ByteArray)(F:Nat->b)(x:b)(t:ByteArray)(k:Nat):(eB g F x t k).length<=k+1/\(dL g t k=D->(eB g F x t k).length=k):=by
 induction k with
 | zero=>simp[eB]
 | succ j d =>
  simp only[eB,dL];cases hd:dL g t j with
  | false =>
   have h1:=d.2 hd;cases hl:ay t (g j) with
   | true=>simp[h1]
   | false=>simp[h1]
  | true =>have h1:=d.1;simp;omega
theorem ss {b d:Type}(p:b->d)(g:Nat->ByteArray)(F:Nat->b)(x:b)(t:ByteArray)(k:Nat):(eB g F x t k).map p=eB g (fun i=>p (F i)) (p x) t k:=by
 induction k with
 | zero=>rfl
 | succ j f =>simp only[eB];split<;>simp[f]
theorem Ai {b d:Type}(p:b->d)(g:Nat->ByteArray)(F:Nat->b)(x:b)(t:ByteArray)(n:Nat):(jE g F x t n).map p=jE g (fun i=>p (F i)) (p x) t n:=by
 unfold jE;split
 ·exact ss p g F x t n
 ·rw[E2,ss];rfl
theorem jF {l:Type}{g:Nat->ByteArray}{L:List l}{d x:l}{t:ByteArray}{i:Nat}(hi:i<=L.length)(h1:∀ m,m<i->ay (g m) t=QC):∀ k,k<=i->dL g t k=D/\eB g (fun j=>L.getD j d) x t k=L.take k
 | 0,_=>⟨rfl,rfl⟩
 | k+1,hk=>by
  obtain⟨f,b⟩:=jF (d:=d) (x:=x) hi h1 k (by omega);have h:ay t (g k)=D:=(ib (h1 k (by omega))).1;have e:L.getD k d=L[k]'(by omega):=by rw[vF,gq (by omega)];rfl
  refine⟨?_,?_⟩
  ·show(dL g t k || ay t (g k))=D
   rw[f,h];rfl
  ·show(if _ then _ else _)=_
   rw[a8 (by rw[h];simp),b];show L.take k++[L.getD k d]=_;rw[e];exact JZ (by omega)
theorem mM {o:Type}{g:Nat->ByteArray}{L:List o}{d x:o}{t:ByteArray}{i:Nat}(hi:i<=L.length)(h1:∀ m,m<i->ay (g m) t=QC)(h2:∀ m,i<=m->m<L.length->ay (g m) t=D)(n:∀ m,m<L.length->((g m).toList == t.toList)=D):∀ e,i+e+1<=L.length->dL g t (i+e+1)=QC/\eB g (fun j=>L.getD j d) x t (i+e+1)=L.take i++x :: (L.drop i).take (e+1)
 | 0,hd=>by
  obtain⟨a1,l⟩:=jF (d:=d) (x:=x) hi h1 i lr;have b:i<L.length:=by omega
  have p:ay t (g i)=QC:=by
   cases h:ay t (g i) with
   | true=>rfl
   | false =>
    rcases iZ h with f | ⟨_,f⟩
    ·have:=h2 i lr b
     rw[f] at this;cases this
    ·rw[n _ b] at f
     cases f
  have e:L.getD i d=L[i]:=by rw[vF,gq b];rfl
  refine⟨?_,?_⟩
  ·show(dL g t i || ay t (g i))=QC
   rw[p];simp
  ·show(if _ then _ else _)=_
   have r:(L.drop i).take (0+1)=[L[i]]:=by rw[KZ b];rfl
   rw[eT ⟨a1,p⟩,l];show L.take i++[x]++[L.getD i d]=_;rw[e,r];simp
 | k+1,hd=>by
  obtain⟨a1,l⟩:=mM (d:=d) (x:=x) hi h1 h2 n k (by omega);have q:k+1<(L.drop i).length:=by rw[IH];omega
  have e:L.getD (i+k+1) d=L[i+k+1]'(by omega):=by rw[vF,gq (by omega)];rfl
  refine⟨?_,?_⟩
  ·show(dL g t (i+k+1) || _)=QC
   rw[a1];rfl
  ·show(if _ then _ else _)=_
   rw[a8 (by rw[show i+(k+1)=i+k+1 from rfl,a1];simp)];show eB g (fun j=>L.getD j d) x t (i+k+1)++[L.getD (i+k+1) d]=_;rw[l,e,<-JZ q,LZ];simp[LE]
theorem uM {f:Type}{g:Nat->ByteArray}{L:List f}{d x:f}{t:ByteArray}{i:Nat}(hi:i<=L.length)(h1:∀ m,m<i->ay (g m) t=QC)(h2:∀ m,i<=m->m<L.length->ay (g m) t=D)(n:∀ m,m<L.length->((g m).toList == t.toList)=D):jE g (fun j=>L.getD j d) x t L.length=L.take i++x :: L.drop i:=by
 by_cases l:i=L.length
 ·subst l
  obtain⟨a1,b⟩:=jF (d:=d) (x:=x) hi h1 L.length lr;unfold jE;rw[a8 (by rw[a1];simp),b];simp
 ·obtain⟨k,h⟩:∃ k,L.length=i+k+1:=⟨L.length - i - 1,by omega⟩
  obtain⟨a1,b⟩:=mM (d:=d) (x:=x) hi h1 h2 n k (by omega);unfold jE;have e:(L.drop i).take (k+1)=L.drop i:=IY (by rw[IH];omega);rw[h,eT a1,b,e]
theorem dt {L:List Target}{i:Nat}(h:i<L.length):bo L i=L[i]:=by rw[bo,vF,gq h];rfl
theorem EY {g:Nat->ByteArray}{n:Nat}(h:∀ i j,i<j->j<n->ay (g i) (g j)=QC):aE g n=QC:=by
 induction n with
 | zero=>rfl
 | succ k d =>
  have h1:=d (fun i j b hj=>h i j b (by omega));cases k with
  | zero=>rfl
  | succ m =>show(aE g (m+1) && _)=QC;rw[h1];exact h m (m+1) (by omega) (by omega)
def ko (K:List Target)(x:Target)(t:ByteArray):List Target:=jE (nm1 (bo K)) (fun j=>K.getD j dfT) x t K.length
end Go.Proofs.YtkdimgejdocbbaaGreatDoor.Vp
