import Derived.Test.YtkdimgejdocbbaaGreatDoorZU
import Derived.Test.YtkdimgejdocbbaaGreatDoorYG
set_option maxRecDepth 100000
set_option maxHeartbeats 8000000
open Go.Addr renaming mk->J
open Go.Value renaming slice->Z,string->U,int->Q,agg->QE
open Option renaming none->Y,some->N
open Go.Obj renaming cells->T
open Go.IntKind renaming i64->I
open Go renaming World->E,Value->QB,TypeId->QF
open Bool renaming false->D,true->QC
open Go.Ending renaming returned->QD
namespace Go.Proofs.YtkdimgejdocbbaaGreatDoor.Vp
open RowKit
def keepS (f:Nat->Source)(t:ByteArray)(k:Nat):List Source:=((List.range k).map f).filter fun x=>!(x.name.toList == t.toList)
def keepT (f:Nat->Target)(t:ByteArray)(k:Nat):List Target:=((List.range k).map f).filter fun x=>!(x.name.toList == t.toList)
theorem wG {f:Nat->Source}{t:ByteArray}{k:Nat}(h:((f k).name.toList == t.toList)=QC):keepS f t (k+1)=keepS f t k:=by simp only[keepS,JB,FB,LL];simp[h]
theorem wH {f:Nat->Source}{t:ByteArray}{k:Nat}(h:((f k).name.toList == t.toList)=D):keepS f t (k+1)=keepS f t k++[f k]:=by simp only[keepS,JB,FB,LL];simp[h]
theorem wI {f:Nat->Target}{t:ByteArray}{k:Nat}(h:((f k).name.toList == t.toList)=QC):keepT f t (k+1)=keepT f t k:=by simp only[keepT,JB,FB,LL];simp[h]
theorem wJ {f:Nat->Target}{t:ByteArray}{k:Nat}(h:((f k).name.toList == t.toList)=D):keepT f t (k+1)=keepT f t k++[f k]:=by simp only[keepT,JB,FB,LL];simp[h]
theorem ia (f:Nat->Source)(t:ByteArray)(k:Nat):(keepS f t k).length<=k:=by have:=MN (fun x:Source=>!(x.name.toList == t.toList)) ((List.range k).map f);simpa[keepS] using this
theorem lV (f:Nat->Target)(t:ByteArray)(k:Nat):(keepT f t k).length<=k:=by have:=MN (fun x:Target=>!(x.name.toList == t.toList)) ((List.range k).map f);simpa[keepT] using this
theorem dS {w:E}{d size n:Nat}{e:QF}{v:QB}{f:List QB}(h:w.ownsRow d e size v n f)(hn:0<n):∃ g b,v=Z (N (J g 0 Y)) n b:=by
 rcases h.2 with ⟨_,h0⟩ | ⟨g,b,cur,rfl,_⟩
 ·omega
 ·exact⟨g,b,rfl⟩
theorem bh {w:E}{d size n:Nat}{e:QF}{v:QB}{f:List QB}(h:w.ownsRow d e size v n f):∃ a b,v=Z a n b:=by
 rcases h.2 with ⟨rfl,rfl⟩ | ⟨g,b,cur,rfl,_⟩
 ·exact⟨_,_,rfl⟩
 ·exact⟨_,_,rfl⟩
theorem cT (w:E)(x y:QB)(t:QF):∀ j u,[x,y][j]?=N u->(w.alloc (T #[x,y] t)).cell? (((J w.heap.size 0 Y):Addr).add j)=N u:=by
 intro j u b;rw[addr_add,DC];match j,b with
 | 0,b=>simp at b;subst b;simp
 | 1,b=>simp at b;subst b;simp
abbrev TR:=Target × Nat × Nat
def aV (r:TR):List QB:=[U r.1.name,Z (N (J r.2.1 0 Y)) r.1.actN r.2.2]
structure TRow (w:E)(base:Nat)(v:QB)(R:List TR):Prop where
 own:w.ownsRow base 108 2 v R.length (R.flatMap aV)
 act:∀ r∈R,RowIns w r.2.1 0 r.1.actN r.1.act/\(∃ F,Cells w r.2.1 0 (r.1.actN*3) F)/\TypeAt w r.2.1 188/\base<=r.2.1
 up:R.Pairwise fun a b=>a.2.1≠b.2.1
theorem TypeAt.block {w b:E}{g:Nat}{e:QF}(h:TypeAt w g e)(hb:b.heap[g]?=w.heap[g]?):TypeAt b g e:=by obtain⟨c,d⟩:=h;exact⟨c,hb.trans d⟩
theorem RowIns.block {w b:E}{g off n:Nat}{f:Nat->Ins}(h:RowIns w g off n f)(hz:w.heap.size<=b.heap.size)(hb:b.heap[g]?=w.heap[g]?):RowIns b g off n f:=by refine⟨ll h.1 hz,fun i hi=>?_⟩;obtain⟨d,h1,h2⟩:=h.2 i hi;exact⟨(cq (a:=(J g _ Y)) hb).trans d,(cq (a:=(J g _ Y)) hb).trans h1,(cq (a:=(J g _ Y)) hb).trans h2⟩
theorem Cells.block {w d:E}{b off m:Nat}{F:Nat->QB}(h:Cells w b off m F)(hz:w.heap.size<=d.heap.size)(e:d.heap[b]?=w.heap[b]?):Cells d b off m F :=
 ⟨ll h.1 hz,fun j f=>⟨(cq (a:=(J b (off+j) Y)) e).trans (h.2 j f).1,(DN (a:=(J b (off+j) Y)) e).trans (h.2 j f).2⟩⟩
theorem TRow.below {w f:E}{b B:Nat}{v:QB}{R:List TR}(h:TRow w b v R)(hb:Below B w f)(d:w.heap.size<=B):TRow f b v R:=by refine⟨own_below h.own hb d,fun r j=>?_,h.up⟩;obtain⟨h1,⟨F,h2⟩,g,i⟩:=h.act r j;have e:=hb.block r.2.1 (ll h1.1 d);exact⟨h1.block hb.size e,⟨F,h2.block hb.size e⟩,g.block e,i⟩
theorem TRow.set {w:E}{b X j:Nat}{v:QB}{R:List TR}(h:TRow w b v R)(g:X<b)(u:QB):TRow (w.setCell (J X j Y) u) b v R:=by refine⟨aG h.own g u,fun r i=>?_,h.up⟩;obtain⟨h1,⟨F,h2⟩,d,f⟩:=h.act r i;have e:(w.setCell (J X j Y) u).heap[r.2.1]?=w.heap[r.2.1]?:=qh _ _ _ _ (by simp;omega);exact⟨h1.block (by simp) e,⟨F,h2.block (by simp) e⟩,d.block e,f⟩
theorem dT (w:E)(b:Nat):TRow w b (Z Y 0 0) []:=⟨H7 _ _ _ _,fun r d=>absurd d (by simp),List.Pairwise.nil⟩
theorem TRow.type {w:E}{b:Nat}{v:QB}{R:List TR}(h:TRow w b v R):∀ k,v.ownBlock=N k->TypeAt w k 108:=by
 intro k d;rcases h.own.2 with ⟨rfl,_⟩ | ⟨g,cap,f,rfl,_,i,_⟩
 ·simp[Value.ownBlock] at d
 ·simp[Value.ownBlock] at d
  subst d;exact⟨f,i⟩
theorem TRow.more {w l q:E}{d g c:Nat}{v u:QB}{R:List TR}{x:Target}(h:TRow w d v R)(hb:Below w.heap.size w l)(hg:w.heap.size<=g)(m:d<=g)
  (s:l.ownsRow d 188 3 (Z (N (J g 0 Y)) x.actN c) x.actN (cB x.act x.actN)) (p:q.ownsRow d 108 2 u (R.length+1) (R.flatMap aV++aV (x,g,c))) (f:l.grownBy q v.ownBlock):TRow q d u (R++[(x,g,c)]):=by
 have n:∀ k,TypeAt l k 188->N k≠v.ownBlock:=fun k B e=>by have z:=(h.below hb lr).type k e.symm;exact ey B z (by decide) rfl
 have t:∀ r∈R,r.2.1<w.heap.size:=fun r i=>(h.act r i).1.1;refine⟨by simpa using p,fun r i=>?_,?_⟩
 ·rcases kS.1 i with i | i
  ·obtain⟨h1,⟨F,h2⟩,j,y⟩:=(h.below hb lr).act r i
   have e:=f.block r.2.1 h1.1 (n _ j);exact⟨h1.block f.size e,⟨F,h2.block f.size e⟩,j.block e,y⟩
  ·simp at i
   subst i;obtain⟨h1,F,h2⟩:=jN s;have j:=iX s;have e:=f.block g h1.1 (n _ j);exact⟨h1.block f.size e,⟨F,h2.block f.size e⟩,j.block e,m⟩
 ·rw[IY]
  refine⟨h.up,by simp,fun a A b o=>?_⟩;simp at o;subst o;have:=t a A;show a.2.1≠g;omega
theorem yg {w:E}{b0 o s0 s1 n0 n1:Nat}{h j:QF}{d i:QB}{m p:List QB}(q:w.ownsRow b0 h s0 d n0 m)(h1:w.ownsRow o j s1 i n1 p)(f:h≠j):d.ownBlock=Y∨d.ownBlock≠i.ownBlock:=by
 rcases q.2 with ⟨rfl,_⟩ | ⟨g,cap,k,rfl,_,n,_⟩
 ·exact .inl rfl
 ·right
  rcases h1.2 with ⟨rfl,_⟩ | ⟨g',cap',b,rfl,_,l,_⟩
  ·simp[Value.ownBlock]
  ·simp only[Value.ownBlock,ne_eq,E2]
   exact ey ⟨k,n⟩ ⟨b,l⟩ f
structure Boxes (w:E)(h:Nat)(p0 p1 v0 v1:QB):Prop where
 lt:h+2<w.heap.size
 a0:w.cell? (J h 0 Y)=N p0
 a1:w.cell? (J h 1 Y)=N p1
 r0:w.cell? (J (h+1) 0 Y)=N (Z Y 0 0)/\w.frozen? (J (h+1) 0 Y)=D
 r1:w.cell? (J (h+1) 1 Y)=N (Z Y 0 0)/\w.frozen? (J (h+1) 1 Y)=D
 o0:w.cell? (J (h+1+1) 0 Y)=N v0/\w.frozen? (J (h+1+1) 0 Y)=D
 o1:w.cell? (J (h+1+1) 1 Y)=N v1/\w.frozen? (J (h+1+1) 1 Y)=D
theorem Boxes.below {w d:E}{h B:Nat}{i m j l:QB}(b:Boxes w h i m j l)(hb:Below B w d)(hB:h+3<=B):Boxes d h i m j l:=by have c:∀ k o,k<B->d.cell? (J k o Y)=w.cell? (J k o Y):=fun k o g=>hb.cell (p:=(J k o Y)) g;have f:∀ k o,k<B->d.frozen? (J k o Y)=w.frozen? (J k o Y):=fun k o g=>hb.frozen (p:=(J k o Y)) g;exact⟨ll b.lt hb.size,(c _ _ (by omega)).trans b.a0,(c _ _ (by omega)).trans b.a1,⟨(c _ _ (by omega)).trans b.r0.1,(f _ _ (by omega)).trans b.r0.2⟩,⟨(c _ _ (by omega)).trans b.r1.1,(f _ _ (by omega)).trans b.r1.2⟩,⟨(c _ _ (by omega)).trans b.o0.1,(f _ _ (by omega)).trans b.o0.2⟩,⟨(c _ _ (by omega)).trans b.o1.1,(f _ _ (by omega)).trans b.o1.2⟩⟩
theorem Boxes.set0 {w:E}{h:Nat}{d g j f:QB}(b:Boxes w h d g j f)(u:QB):Boxes (w.setCell (J (h+1+1) 0 Y) u) h d g u f:=by have e:∀ k o,k≠h+1+1->(w.setCell (J (h+1+1) 0 Y) u).cell? (J k o Y)=w.cell? (J k o Y):=fun k o i=>cell_far _ _ _ _ (by simpa using fun e=>i e.symm);exact⟨by simpa using b.lt,(e _ _ (by omega)).trans b.a0,(e _ _ (by omega)).trans b.a1,⟨(e _ _ (by omega)).trans b.r0.1,by simpa using b.r0.2⟩,⟨(e _ _ (by omega)).trans b.r1.1,by simpa using b.r1.2⟩,⟨AI _ _ _ (by rw[b.o0.1];rfl),by simpa using b.o0.2⟩,⟨(sq _ _ _ _ (by simp)).trans b.o1.1,by simpa using b.o1.2⟩⟩
theorem Boxes.set1 {w:E}{h:Nat}{d g f i:QB}(b:Boxes w h d g f i)(u:QB):Boxes (w.setCell (J (h+1+1) 1 Y) u) h d g f u:=by have e:∀ k o,k≠h+1+1->(w.setCell (J (h+1+1) 1 Y) u).cell? (J k o Y)=w.cell? (J k o Y):=fun k o j=>cell_far _ _ _ _ (by simpa using fun e=>j e.symm);exact⟨by simpa using b.lt,(e _ _ (by omega)).trans b.a0,(e _ _ (by omega)).trans b.a1,⟨(e _ _ (by omega)).trans b.r0.1,by simpa using b.r0.2⟩,⟨(e _ _ (by omega)).trans b.r1.1,by simpa using b.r1.2⟩,⟨(sq _ _ _ _ (by simp)).trans b.o0.1,by simpa using b.o0.2⟩,⟨AI _ _ _ (by rw[b.o1.1];rfl),by simpa using b.o1.2⟩⟩
theorem yh (w:E)(d b:QB)(t:QF):Boxes (((w.alloc (T #[d,b] t)).alloc (T #[Z Y 0 0,Z Y 0 0] t)).alloc (T #[Z Y 0 0,Z Y 0 0] t)) w.heap.size d b (Z Y 0 0) (Z Y 0 0):=by
 have A:Below (w.heap.size+1) (w.alloc (T #[d,b] t)) (((w.alloc (T #[d,b] t)).alloc (T #[Z Y 0 0,Z Y 0 0] t)).alloc (T #[Z Y 0 0,Z Y 0 0] t)):=(br.alloc (by simp) _).alloc (by simp) _;have C:Below (w.heap.size+1+1) ((w.alloc (T #[d,b] t)).alloc (T #[Z Y 0 0,Z Y 0 0] t)) (((w.alloc (T #[d,b] t)).alloc (T #[Z Y 0 0,Z Y 0 0] t)).alloc (T #[Z Y 0 0,Z Y 0 0] t)):=br.alloc (by simp) _;have hz:(w.alloc (T #[d,b] t)).heap.size=w.heap.size+1:=by simp
 have f:((w.alloc (T #[d,b] t)).alloc (T #[Z Y 0 0,Z Y 0 0] t)).heap.size=w.heap.size+1+1:=by simp
 refine⟨by simp,?_,?_,⟨?_,?_⟩,⟨?_,?_⟩,⟨?_,?_⟩,⟨?_,?_⟩⟩
 ·exact(A.cell (p:=(J w.heap.size 0 Y)) (lj _)).trans (by simp)
 ·exact(A.cell (p:=(J w.heap.size 1 Y)) (lj _)).trans (by simp)
 ·refine(C.cell (p:=(J (w.heap.size+1) 0 Y)) (lj _)).trans ?_
  rw[<-hz];simp
 ·refine(C.frozen (p:=(J (w.heap.size+1) 0 Y)) (lj _)).trans ?_
  rw[<-hz];simp
 ·refine(C.cell (p:=(J (w.heap.size+1) 1 Y)) (lj _)).trans ?_
  rw[<-hz];simp
 ·refine(C.frozen (p:=(J (w.heap.size+1) 1 Y)) (lj _)).trans ?_
  rw[<-hz];simp
 all_goals
  rw[<-f];clear A C hz f;generalize (w.alloc (T #[d,b] t)).alloc (T #[Z Y 0 0,Z Y 0 0] t)=W;simp
theorem iz {p:Nat->Bool}{n i:Nat}(h:aH p n=D)(hi:i<n):p i=D:=by
 cases e:p i with
 | false=>rfl
 | true=>rw[cO hi e] at h;cases h
theorem oA {n0:Nat}{f0:Nat->Source}{n1:Nat}{f1:Nat->Target}(h:aU n0 f0 n1 f1=0):aE (nm0 f0) n0=QC/\aE (nm1 f1) n1=QC/\∀ i,i<n1->1<=(f1 i).actN:=by
 unfold aU at h;split at h;· omega
 split at h;· omega
 split at h;· omega
 split at h;· omega
 split at h;· omega
 split at h;· omega
 split at h;· omega
 split at h;· omega
 rename_i b g _ _ j;refine⟨by simpa using b,by simpa using g,fun i hi=>?_⟩;have d:=iz (by simpa using j) hi;have f:valid (f1 i).act (f1 i).actN=QC:=by simpa[cy] using d
 have:=(bY f).2.1;omega
theorem jo {w:E}{b base':Nat}{v:QB}{R:List TR}(h:TRow w b v R)(hb:base'<=b):TRow w base' v R:=by refine⟨aI h.own hb,fun r f=>?_,h.up⟩;obtain⟨h1,h2,d,h4⟩:=h.act r f;exact⟨h1,h2,d,by omega⟩
structure Pair (w:E)(h:Nat)(p0 p1:QB):Prop where
 lt:h+1<w.heap.size
 a0:w.cell? (J h 0 Y)=N p0
 a1:w.cell? (J h 1 Y)=N p1
 r0:w.cell? (J (h+1) 0 Y)=N (Z Y 0 0)/\w.frozen? (J (h+1) 0 Y)=D
 r1:w.cell? (J (h+1) 1 Y)=N (Z Y 0 0)/\w.frozen? (J (h+1) 1 Y)=D
theorem Pair.lt' {w:E}{h:Nat}{d f:QB}(b:Pair w h d f):h+2<=w.heap.size:=b.lt
theorem Pair.below {w d:E}{h B:Nat}{i j:QB}(b:Pair w h i j)(hb:Below B w d)(hB:h+2<=B):Pair d h i j:=by have c:∀ k o,k<B->d.cell? (J k o Y)=w.cell? (J k o Y):=fun k o g=>hb.cell (p:=(J k o Y)) g;have f:∀ k o,k<B->d.frozen? (J k o Y)=w.frozen? (J k o Y):=fun k o g=>hb.frozen (p:=(J k o Y)) g;exact⟨ll b.lt hb.size,(c _ _ (by omega)).trans b.a0,(c _ _ (by omega)).trans b.a1,⟨(c _ _ (by omega)).trans b.r0.1,(f _ _ (by omega)).trans b.r0.2⟩,⟨(c _ _ (by omega)).trans b.r1.1,(f _ _ (by omega)).trans b.r1.2⟩⟩
theorem Ag (w:E)(d b:QB)(t:QF):Pair ((w.alloc (T #[d,b] t)).alloc (T #[Z Y 0 0,Z Y 0 0] t)) w.heap.size d b:=by
 have A:Below (w.heap.size+1) (w.alloc (T #[d,b] t)) ((w.alloc (T #[d,b] t)).alloc (T #[Z Y 0 0,Z Y 0 0] t)):=br.alloc (by simp) _;have hz:(w.alloc (T #[d,b] t)).heap.size=w.heap.size+1:=by simp
 refine⟨by simp,(A.cell (p:=(J w.heap.size 0 Y)) (lj _)).trans (by simp),(A.cell (p:=(J w.heap.size 1 Y)) (lj _)).trans (by simp),⟨?_,?_⟩,⟨?_,?_⟩⟩;all_goals
  rw[<-hz];clear A hz;generalize w.alloc (T #[d,b] t)=W;simp
def dfS:Source:=⟨⟨#[]⟩,⟨#[]⟩⟩
def dfT:Target:=⟨⟨#[]⟩,0,fun _=>⟨0,⟨#[]⟩,0⟩⟩
def dfR:TR:=(dfT,0,0)
def aP (L:List Source)(i:Nat):Source:=L.getD i dfS
def bo (L:List Target)(i:Nat):Target:=L.getD i dfT
theorem jO {w:E}{b c:Nat}{a:Option Addr}{L:List Source}(h:w.ownsRow b 104 2 (Z a L.length c) L.length (L.flatMap bC)):SlSource w a L.length (aP L):=by
 by_cases f:L.length=0
 ·exact .inl f
 ·obtain⟨g,c',e⟩:=dS h (by omega)
  simp at e;obtain⟨rfl,rfl⟩:=e;refine .inr ⟨g,0,rfl,(dR h).2,fun i hi=>?_⟩;have d:L[i]?=N (aP L i):=by rw[aP,vG,gq hi];rfl
  refine⟨?_,?_⟩
  ·have:=(bv h (j:=i*2) (u:=U (aP L i).name) (by have:=cS bC 2 (fun _=>rfl) L i 0 (by omega) _ d;simpa[bC] using this)).1
   rwa[show 0+i*2=i*2 by omega]
  ·have:=(bv h (j:=i*2+1) (u:=U (aP L i).text) (by have:=cS bC 2 (fun _=>rfl) L i 1 (by omega) _ d;simpa[bC] using this)).1
   rwa[show 0+i*2+1=i*2+1 by omega]
theorem uK {R:List TR}{i:Nat}(hi:i<R.length):∃ r,R[i]?=N r/\r∈R:=⟨R[i],gq hi,gz hi⟩
theorem sf {w:E}{d c:Nat}{a:Option Addr}{R:List TR}(h:TRow w d (Z a R.length c) R):SlTarget w a R.length (bo (R.map (·.1))):=by
 by_cases l:R.length=0
 ·exact .inl l
 ·obtain⟨g,c',e⟩:=dS h.own (by omega)
  simp at e;obtain⟨rfl,rfl⟩:=e;refine .inr ⟨g,0,rfl,(dR h.own).2,fun i hi=>?_⟩;obtain⟨r,b,f⟩:=uK hi;have k:bo (R.map (·.1)) i=r.1:=by rw[bo,vG,IE,b];rfl
  rw[k];obtain⟨h1,_,_,_⟩:=h.act r f;refine⟨?_,N (J r.2.1 0 Y),r.2.2,?_,h1.sl⟩
  ·have:=(bv h.own (j:=i*2) (u:=U r.1.name) (by have:=cS aV 2 (fun _=>rfl) R i 0 (by omega) _ b;simpa[aV] using this)).1
   rwa[show 0+i*2=i*2 by omega]
  ·have:=(bv h.own (j:=i*2+1) (u:=Z (N (J r.2.1 0 Y)) r.1.actN r.2.2) (by have:=cS aV 2 (fun _=>rfl) R i 1 (by omega) _ b;simpa[aV] using this)).1
   rwa[show 0+i*2+1=i*2+1 by omega]
theorem Ff {w i:E}{b size n:Nat}{e:QF}{v:QB}{d:List QB}{P:Nat->Prop}(h:w.ownsRow b e size v n d)(p:Touch P w i)(q:∀ k,v.ownBlock=N k->¬ P k):i.ownsRow b e size v n d:=by
 refine⟨h.1,?_⟩;rcases h.2 with h | ⟨g,j,m,l,o,f,r⟩
 ·exact .inl h
 ·refine .inr ⟨g,j,m,l,o,(p.block g ?_ (q g (by rw[l];rfl))).trans f,r⟩
  exact(x5.1 f).1
theorem fM (a0:Option Addr)(n0 c0:Nat)(f0:Nat->Source)(a1:Option Addr)(n1 c1:Nat)(f1:Nat->Target)(t:ByteArray)(w:E)(hn0:(n0:Int)<=1048576)(hn1:(n1:Int)<=1048576)(H:SlSource w a0 n0 f0)(QN:SlTarget w a1 n1 f1)(C:∀ i,i<n1->aS (f1 i)):Calls Tryz.prog 68 #[QE #[Z a0 n0 c0,Z a1 n1 c1],U t] w fun e P=>∃ n q R,e=QD (QE #[n,q])/\P.ownsRow (w.heap.size+3) 104 2 n (keepS f0 t n0).length ((keepS f0 t n0).flatMap bC)/\TRow P (w.heap.size+3) q R/\R.map (·.1)=keepT f1 t n1/\Below w.heap.size w P:=by
 have V0:=ae H;have V1:=ae QN;have HF:=ae C;clear H QN C;obtain⟨bt,hi,QH,la,n7⟩:=IS ix;obtain⟨V,hj,X,ex,n6⟩:=IS ft;have A0:=ae ((((Qs w).alloc lr (T #[Z a0 n0 c0,Z a1 n1 c1] 26)).alloc (by simp) (T #[Z Y 0 0,Z Y 0 0] 26)).alloc (by simp;omega) (T #[Z Y 0 0,Z Y 0 0] 26));have X0:=ae (yh w (Z a0 n0 c0) (Z a1 n1 c1) 26);go_enter Tryz.func68,Tryz.ntmps68;go_wp2;generalize ((w.alloc (T #[Z a0 n0 c0,Z a1 n1 c1] 26)).alloc (T #[Z Y 0 0,Z Y 0 0] 26)).alloc (T #[Z Y 0 0,Z Y 0 0] 26)=W at A0 X0 ⊢;go_loopw [6] (fun i wr=>∃ (k:Nat) (n:QB),k<=n0/\i=Q I k/\Hid (Boxes wr w.heap.size (Z a0 n0 c0) (Z a1 n1 c1) n (Z Y 0 0))/\Hid (wr.ownsRow (w.heap.size+3) 104 2 n (keepS f0 t k).length ((keepS f0 t k).flatMap bC))/\Hid (Below w.heap.size w wr)) (fun i _=>n0 - (intOf i).toNat);case atStart=>exact⟨0,_,by omega,rfl,X0,H7 _ _ _ _,A0⟩
 case round =>
  obtain⟨k,n,hk,rfl,d,z,m⟩:=hrel;have QL:=d.lt;by_cases r:k<n0
  ·obtain⟨b,off,rfl,o⟩:=V0.resolve_left (by omega)
   obtain⟨QJ,QK⟩:=(o.2 k r).below m o.1;clear o;have hll:=ia f0 t k;have QM:=d.a0;cases hq:((f0 k).name.toList == t.toList) with
   | true =>have y:=ae hq;go_wp2;exact⟨⟨k+1,n,by omega,by go_num,d,by show World.ownsRow _ _ _ _ _ _ _;rw[wG y.out];exact z,m⟩,by simp[intOf];omega⟩
   | false =>
    have y:=ae hq;obtain⟨x0,y0⟩:=d.o0;have QP:=ae ((eI (w.heap.size+3) wr).drew.alloc (by simp;omega) (T #[U (f0 k).name,U (f0 k).text] 104));go_wp2_with fail
    go_region_law (first
     | (refine cZ rfl (.tmp 25) (.tmp 31) 23 rfl (w.heap.size+3) 104 bt (QE #[U ⟨#[]⟩,U ⟨#[]⟩]) 2 32 Tryz.underlying23 hi QH la n7 rfl (by decide) n (keepS f0 t k).length ((keepS f0 t k).flatMap bC) (by simp[Act.eval]) (z.drew.alloc _) (J wr.heap.size 0 Y) 1 1 (bC (f0 k)) (by simp[Act.eval]) rfl (cT wr.drew _ _ _) (by simp[bC,Value.oneCell']) (by unfold maxLen;omega) (by omega) (by simp<;>omega) ?_;intro v' w2 l f s;obtain⟨gs,cs,rfl⟩:=dS l (by omega);have O2:=ae l;have M:=ae (bg QP f (by simp<;>omega) (fun j e=>(z.lt j e).1));obtain⟨x2,y2⟩:=(d.below M lr).o0;clear l f s))
    all_goals
     clear x0 y0 QM;go_wp2;exact⟨⟨k+1,_,by omega,by go_num,(d.below M lr).set0 _,by show World.ownsRow _ _ _ _ _ _ _;rw[wH y.out,cM,IC];simpa using aG O2.out (by omega) _,(m.trans (M.mono (by omega))).setCell (by simp;omega) _⟩,by simp[intOf];omega⟩
  ·have e:n0=k:=by omega
   subst e;have QM:=d.a0;have QQ:=d.a1;go_wp2;clear QM QQ r hk;generalize wr=W1 at d z m QL ⊢;go_loopw [7] (fun i wr=>∃ (k:Nat) (q:QB) (R:List TR),k<=n1/\i=Q I k/\Hid (Boxes wr w.heap.size (Z a0 n0 c0) (Z a1 n1 c1) n q)/\Hid (wr.ownsRow (w.heap.size+3) 104 2 n (keepS f0 t n0).length ((keepS f0 t n0).flatMap bC))/\Hid (TRow wr (w.heap.size+3) q R)/\Hid (R.map (·.1)=keepT f1 t k)/\Hid (Below w.heap.size w wr)) (fun i _=>n1 - (intOf i).toNat);case atStart=>exact⟨0,_,[],by omega,rfl,d,z,dT _ _,rfl,m⟩
   case round =>
    clear d z m;obtain⟨k,q,R,hk,rfl,d,A,u,G,m⟩:=hrel;have hlt4:=d.lt;by_cases r:k<n1
    ·obtain⟨b,off,rfl,o⟩:=V1.resolve_left (by omega)
     obtain⟨QJ,ka,kc,QK,hx⟩:=(o.2 k r).below m lr o.1;have HX:=ae hx;have ld:=o.1;clear o hx;have hRl:R.length<=1048576:=by have h1:=wC List.length G.out;have h2:=lV f1 t k;simp at h1;omega
     have mv:((f1 k).actN:Int)<=1048576:=by have:=HF.out k r;unfold aS at this;omega
     have QQ:=d.a1;have hbh:¬ b=w.heap.size+1+1:=by omega
     have hbh2:¬ w.heap.size+1+1=b:=by omega
     have K:b<wr.heap.size:=ll ld m.size;cases hq:((f1 k).name.toList == t.toList) with
     | true =>have y:=ae hq;go_wp2;exact⟨⟨k+1,q,R,by omega,by go_num,d,A,u,by show _=keepT f1 t (k+1);rw[wI y.out];exact G,m⟩,by simp[intOf];omega⟩
     | false =>
      have y:=ae hq;obtain⟨x1,y1⟩:=d.o1;have QP:=ae (Qs wr).drew;go_wp2_with fail
      go_region_law (first
       | (go_simp;go_at_call 86;refine(lD ka (f1 k).actN kc (f1 k).act _ mv (HX.below QP lr)).mono ?_;rintro e B ⟨g,c,rfl,O,hB⟩;have h:=ae (QP.trans (hB.mono (by simp)));have aq:=(h.cell (p:=(J b (off+k*2) Y)) K).trans QJ;have QG:=(h.cell (p:=(J b (off+k*2+1) Y)) K).trans QK;have QO:=(dR O).1;have OC:=ae (aI O (base':=w.heap.size+3) (by simp;omega));have L:wr.heap.size<=g:=(by simpa using QO);obtain⟨xC,yC⟩:=(d.below h (by omega)).o1;have kC:=(d.below h (by omega)).a1;have hzC:w.heap.size+1+1<B.heap.size:=(by have:=(d.below h (by omega)).lt;omega);have hyC:w.heap.size<B.heap.size:=(by omega);have hxC:b<B.heap.size:=(by have:=h.size;omega);clear hB O QO)
       | (refine cZ rfl (.tmp 50) (.tmp 65) 24 rfl (w.heap.size+3) 108 V (QE #[U ⟨#[]⟩,Z Y 0 0]) 2 40 Tryz.underlying24 hj X ex n6 rfl (by decide) q R.length (R.flatMap aV) (by simp[Act.eval]) ((u.below h lr).own.alloc _) (J B.heap.size 0 Y) 1 1 (aV (f1 k,g,c)) (by simp[Act.eval]) rfl (cT B _ _ _) (by simp[aV,Value.oneCell']) (by unfold maxLen;omega) (by omega) (by first | (simp;done) | (simp;omega) | (have:=h.size;simp;omega)) ?_;intro v' w2 l f s;obtain⟨gs,cs,rfl⟩:=dS l (by omega);have T2:=ae (u.more (x:=f1 k) (g:=g) (c:=c) (h.alloc h.size _) L (by omega) (OC.alloc _) l f);have S:=ae (bg ((h.mono (show w.heap.size+3<=wr.heap.size by omega)).alloc (by have:=h.size;omega) _) f (by have:=h.size;simp;omega) (fun j e=>(u.own.lt j e).1));obtain⟨x2,y2⟩:=(d.below S lr).o1;have fd:=ae ((own_below A (h.alloc h.size _) lr).kept f (yg (own_below A (h.alloc h.size (T #[U (f1 k).name,Z (N (J g 0 Y)) (f1 k).actN c] 108)) lr) ((u.below h lr).own.alloc _) (by decide)));clear l f s))
      all_goals
       clear aq QG xC yC x1 y1 QQ kC QJ QK;go_wp2;exact⟨⟨k+1,_,R++[(f1 k,g,c)],by omega,by go_num,(d.below S lr).set1 _,aG fd (by omega) _,T2.set (by omega) _,by show _=keepT f1 t (k+1);rw[wJ y.out,FB,G.out];rfl,(m.trans (S.mono (by omega))).setCell (by simp;omega) _⟩,by simp[intOf];omega⟩
    ·have e:n1=k:=by omega
     subst e;have QQ:=d.a1;obtain⟨sa,sc,rfl⟩:=bh A;obtain⟨ta,tc,rfl⟩:=bh u.own;obtain⟨r0,q0⟩:=d.r0;obtain⟨r1,q1⟩:=d.r1;obtain⟨m0,_⟩:=d.o0;obtain⟨m1,_⟩:=d.o1;go_wp2;exact bp (v:=QE #[Z sa _ sc,Z ta _ tc]) (by simp[results,Tryz.results68,go_sem,r0,r1]) rfl ⟨_,_,R,rfl,aG (aG A (by omega) _) (by omega) _,(u.set (by omega) _).set (by omega) _,G,(m.setCell (by simp) _).setCell (by simp) _⟩
theorem pa:∀ a b:List UInt8,decide (0<Lib.compareBytes a b)=Op.bytesLess b a
 | [],[]=>by simp[Lib.compareBytes,Op.bytesLess]
 | [],_ :: _=>by simp[Lib.compareBytes,Op.bytesLess]
 | _ :: _,[]=>by simp[Lib.compareBytes,Op.bytesLess]
 | a :: x,b :: y=>by
  have f:=pa x y;rw[Lib.compareBytes,Op.bytesLess,<-f];by_cases h1:a<b
  ·have d:¬ b=a:=fun e=>by subst e;exact(UInt8.lt_irrefl _ h1)
   have g:¬ b<a:=fun h=>UInt8.lt_irrefl _ (UInt8.lt_trans h1 h);simp[h1,d,g]
  ·rw[a8 h1]
   by_cases h2:b<a
   ·simp[h2]
   ·have d:a=b:=UInt8.le_antisymm (L9.1 h2) (L9.1 h1)
    subst d;simp[h1]
theorem ib {a b:ByteArray}(h:ay b a=QC):ay a b=D/\(a.toList == b.toList)=D:=by have h1:=mA a.data.toList b.data.toList;have h2:=kl a.data.toList b.data.toList;have d:=pa a.data.toList b.data.toList;simp only[ay,IA] at h ⊢;rw[<-h1,<-h2];rw[<-d] at h;simp at h ⊢;omega
theorem iZ {a b:ByteArray}(h:ay b a=D):ay a b=QC∨(ay a b=D/\(a.toList == b.toList)=QC):=by have h1:=mA a.data.toList b.data.toList;have h2:=kl a.data.toList b.data.toList;have d:=pa a.data.toList b.data.toList;simp only[ay,IA] at h ⊢;rw[<-h1,<-h2];rw[<-d] at h;simp only[IL,j4] at h ⊢;omega
structure Fa (w:E)(b:Nat)(v0 v1:QB):Prop where
 lt:b<w.heap.size
 c0:w.cell? (J b 0 Y)=N v0
 c1:w.cell? (J b 1 Y)=N v1
 z0:w.frozen? (J b 0 Y)=D
 z1:w.frozen? (J b 1 Y)=D
theorem sg (w:E)(b d:QB)(t:QF):Fa (w.alloc (T #[b,d] t)) w.heap.size b d:=⟨by simp,by simp,by simp,by simp,by simp⟩
def dq (L:List Source)(t:ByteArray):Nat->Bool
 | 0=>D
 | k+1=>dq L t k || ay t (aP L k).name
def bU (L:List Source)(x:Source)(t:ByteArray):Nat->List Source
 | 0=>[]
 | k+1=>if dq L t k=D/\ay t (aP L k).name=QC then bU L x t k++[x]++[aP L k] else bU L x t k++[aP L k]
def gB (L:List Source)(x:Source)(t:ByteArray):List Source:=if dq L t L.length=QC then bU L x t L.length else bU L x t L.length++[x]
theorem yi (L:List Source)(x:Source)(t:ByteArray)(k:Nat):(bU L x t k).length<=k+1/\(dq L t k=D->(bU L x t k).length=k):=by
 induction k with
 | zero=>simp[bU]
 | succ j b =>
  simp only[bU,dq];cases hd:dq L t j with
  | false =>
   have h1:=b.2 hd;cases hl:ay t (aP L j).name with
   | true=>simp[h1]
   | false=>simp[h1]
  | true =>have h1:=b.1;simp;omega
def iq (n0:Nat)(f0:Nat->Source)(n1:Nat)(f1:Nat->Target)(t tx:ByteArray):Int :=
 if aU n0 f0 n1 f1≠0 then 1 else if au t=D∨2000<(tx.size:Int) then 2 else if 200<=(keepS f0 t n0).length+(keepT f1 t n1).length then 3 else 0
def fc (n0:Nat)(f0:Nat->Source)(n1:Nat)(f1:Nat->Target)(t tx:ByteArray):List Source:=if iq n0 f0 n1 f1 t tx=0 then gB (keepS f0 t n0) ⟨t,tx⟩ t else []
def fk (n0:Nat)(f0:Nat->Source)(n1:Nat)(f1:Nat->Target)(t tx:ByteArray):List Target:=if iq n0 f0 n1 f1 t tx=0 then keepT f1 t n1 else []
theorem sj (a0:Option Addr)(n0 c0:Nat)(f0:Nat->Source)(a1:Option Addr)(n1 c1:Nat)(f1:Nat->Target)(t tx:ByteArray)(w:E)(hn0:(n0:Int)<=1048576)(hn1:(n1:Int)<=1048576)(ur:SlSource w a0 n0 f0)(ro:SlTarget w a1 n1 f1)(mv:∀ i,i<n1->aS (f1 i))(hs:∀ i,i<n1->∀ j,j<(f1 i).actN->((f1 i).act j).s.size<=maxLen):Calls Tryz.prog 12 #[QE #[Z a0 n0 c0,Z a1 n1 c1],U t,U tx] w fun e w'=>∃ v0 v1 R,e=QD (.tuple #[QE #[v0,v1],Q I (iq n0 f0 n1 f1 t tx)])/\w'.ownsRow w.heap.size 104 2 v0 (fc n0 f0 n1 f1 t tx).length ((fc n0 f0 n1 f1 t tx).flatMap bC)/\TRow w' w.heap.size v1 R/\R.map (·.1)=fk n0 f0 n1 f1 t tx/\Below w.heap.size w w':=by
 have V0:=ae ur;have V1:=ae ro;have HF:=ae mv;have HS:=ae hs;clear ur ro mv hs;obtain⟨QL,M,QN,QO,P⟩:=IS ix;obtain⟨C,hC⟩:∃ C,C=aU n0 f0 n1 f1:=⟨_,rfl⟩
 obtain⟨QQ,hD⟩:∃ QQ,QQ=iq n0 f0 n1 f1 t tx:=⟨_,rfl⟩
 obtain⟨LS,ph⟩:∃ LS,LS=fc n0 f0 n1 f1 t tx:=⟨_,rfl⟩
 obtain⟨LT,n9⟩:∃ LT,LT=fk n0 f0 n1 f1 t tx:=⟨_,rfl⟩
 rw[<-hD,<-ph,<-n9];have HC:=ae hC;have HD:=ae (hD.trans (by unfold iq;rw[<-hC]));have z:=ae (ph.trans (by unfold fc;rw[<-hD]));have la:=ae (n9.trans (by unfold fk;rw[<-hD]));clear hC hD ph n9;have A0:=ae (((Qs w).alloc lr (T #[Z a0 n0 c0,Z a1 n1 c1] 26)).alloc (by simp) (T #[Z Y 0 0,Z Y 0 0] 26));have X0:=ae (Ag w (Z a0 n0 c0) (Z a1 n1 c1) 26);go_enter Tryz.func12,Tryz.ntmps12;go_wp2_with fail;generalize (w.alloc (T #[Z a0 n0 c0,Z a1 n1 c1] 26)).alloc (T #[Z Y 0 0,Z Y 0 0] 26)=W at A0 X0 ⊢;refine(fL a0 n0 c0 f0 a1 n1 c1 f1 _ hn0 hn1 (V0.below A0 lr) (V1.below A0 lr) HF HS).mono ?_;rintro e w1 ⟨rfl,y⟩;rw[<-HC.out];have X1:=ae (X0.below y X0.lt');have B1:=ae (A0.trans (y.mono A0.size));clear y A0 X0;by_cases hc:C=0;case neg =>
  have hd:=HD.out;rw[eT hc] at hd;have r:=z.out;rw[a8 (by omega)] at r;have o:=la.out;rw[a8 (by omega)] at o;subst hd r o;have hc':(C == 0)=D:=by simpa using hc
  obtain⟨r0,q0⟩:=X1.r0;obtain⟨r1,QH⟩:=X1.r1;go_wp2;exact bp (v:=.tuple #[QE #[Z Y 0 0,Z Y 0 0],Q I 1]) (by simp[results,Tryz.results12,go_sem,r0,r1]) rfl ⟨_,_,[],rfl,H7 _ _ _ _,dT _ _,rfl,(B1.setCell (by simp) _).setCell (by simp) _⟩
 subst hc;have hz:=oA HC.symm;have HZ:=ae hz;clear hz HC;have n7:=HD.out;rw[a8 (by omega)] at n7;have qr:=ae n7;clear n7 HD;go_wp2_with fail;refine(cX t _).mono ?_;rintro e w2 ⟨rfl,y⟩;have H:=ae (X1.below y X1.lt');have QJ:=ae (B1.trans (y.mono B1.size));clear y X1 B1;by_cases n:au t=D∨2000<(tx.size:Int)
 ·have hd:=qr.out
  rw[eT n] at hd;have r:=z.out;rw[a8 (by omega)] at r;have o:=la.out;rw[a8 (by omega)] at o;subst hd r o;obtain⟨r0,q0⟩:=H.r0;obtain⟨r1,QH⟩:=H.r1;cases hn:au t with
  | false =>clear n;go_wp2;exact bp (v:=.tuple #[QE #[Z Y 0 0,Z Y 0 0],Q I 2]) (by simp[results,Tryz.results12,go_sem,r0,r1]) rfl ⟨_,_,[],rfl,H7 _ _ _ _,dT _ _,rfl,(QJ.setCell (by simp) _).setCell (by simp) _⟩
  | true =>have At:(2000:Int)<tx.size:=n.resolve_left (by simp[hn]);clear n;go_wp2;exact bp (v:=.tuple #[QE #[Z Y 0 0,Z Y 0 0],Q I 2]) (by simp[results,Tryz.results12,go_sem,r0,r1]) rfl ⟨_,_,[],rfl,H7 _ _ _ _,dT _ _,rfl,(QJ.setCell (by simp) _).setCell (by simp) _⟩
 have n6:=qr.out;rw[a8 n] at n6;have sm:=ae n6;have hn:au t=QC:=by
  cases h:au t with
  | true=>rfl
  | false=>exact absurd (.inl h) n
 have At:¬ (2000:Int)<tx.size:=fun h=>n (.inr h);clear n6 qr n;have k0:=H.a0;have k1:=H.a1;rw[hn];go_wp2_with fail;refine(fM a0 n0 c0 f0 a1 n1 c1 f1 t _ hn0 hn1 (V0.below QJ lr) (V1.below QJ lr) HF).mono ?_;rintro e B ⟨v0,v1,R,rfl,hO,hR,hM,y⟩;have hlt2:=H.lt;have X3:=ae (H.below y H.lt');have B3:=ae (QJ.trans (y.mono QJ.size));obtain⟨sa,sc,rfl⟩:=bh hO;obtain⟨QG,V,rfl⟩:=bh hR.own;have eR:R.length=(keepT f1 t n1).length:=by rw[<-hM];simp
 have DA:=ia f0 t n0;have DE:=lV f1 t n1;obtain⟨L,hL⟩:∃ L,L=keepS f0 t n0:=⟨_,rfl⟩
 obtain⟨K,hK⟩:∃ K,K=keepT f1 t n1:=⟨_,rfl⟩
 rw[<-hL] at hO DA ⊢;rw[<-hK] at hM DE eR;have G:=sm.out;rw[<-hL,<-hK] at G;have r:=z.out;rw[<-hL] at r;have o:=la.out;rw[<-hK] at o;have ER:=ae eR;have hlr:R.length<=n1:=by omega
 clear sm z la hL hK y k0 k1 hn H QJ eR;have O3:=ae (aI hO (base':=w.heap.size) (by omega));have RX:Hid (∀ w',Below B.heap.size B w'->TRow w' (w2.heap.size+3) (Z QG R.length V) R):=fun w' hb=>hR.below hb lr;have HM:=ae hM;have hll:(L.length:Int)<=1048576:=by omega
 clear hO hR hM;have DB:=ae ((Qs B).alloc lr (T #[Z sa L.length sc,Z QG R.length V] 26));have K8:=ae (sg B (Z sa L.length sc) (Z QG R.length V) 26);have X4:=ae (X3.below DB X3.lt');have B4:=ae (B3.trans (DB.mono B3.size));have O4:=ae (own_below O3 DB lr);have fd:=ae DB.out;have th:w.heap.size+1<B.heap.size:=X3.lt;have c8:=K8.c0;have c9:=K8.c1;clear O3 DB;by_cases hc3:(200:Int)<=L.length+R.length
 ·rw[eT (by have:=ER.out;omega)] at G
  rw[a8 (by omega)] at r o;subst G r o;obtain⟨r0,q0⟩:=X3.r0;obtain⟨r1,QH⟩:=X3.r1;clear c8 c9;go_wp2;exact bp (v:=.tuple #[QE #[Z Y 0 0,Z Y 0 0],Q I 3]) (by simp[results,Tryz.results12,go_sem,r0,r1,th]) rfl ⟨_,_,[],rfl,H7 _ _ _ _,dT _ _,rfl,((B3.setCell (by simp) _).setCell (by simp) _).alloc (by have:=B3.size;simp;omega) _⟩
 clear X3 B3;rw[a8 (by have:=ER.out;omega)] at G;rw[eT G] at r o;subst G o;have z:=ae r;clear r;go_wp2;have QM:(B.alloc (T #[Z sa L.length sc,Z QG R.length V] 26)).heap.size=B.heap.size+1:=by simp
 generalize B.alloc (T #[Z sa L.length sc,Z QG R.length V] 26)=w4 at K8 X4 B4 O4 fd c8 c9 QM ⊢;generalize B.heap.size=X at K8 c8 c9 th QM RX fd ⊢;obtain⟨u,n8⟩:∃ u,u=w4.heap.size:=⟨_,rfl⟩
 have E0:Hid (Below u w4 (w4.alloc (T #[] 104))):=by rw[n8];exact br.alloc lr _
 have W0:Hid ((w4.alloc (T #[] 104)).ownsRow u 104 2 (Z (N (J (X+1) 0 Y)) 0 0) 0 []):=by rw[<-QM];exact JD w4 #[] 0 (by omega) (by unfold maxLen;omega) rfl
 have x:X<u:=by have:=K8.lt;omega
 have g:=ae n8;have S:=ae QM;clear n8 QM;go_loopw [9,10,11] (fun v d i wr=>∃ (k:Nat) (db:Bool),k<=L.length/\i=Q I k/\d=.bool db/\Hid (db=dq L t k)/\Hid (wr.ownsRow u 104 2 v (bU L ⟨t,tx⟩ t k).length ((bU L ⟨t,tx⟩ t k).flatMap bC))/\Hid (Below u w4 wr)) (fun _ _ i _=>L.length - (intOf i).toNat);case atStart=>exact⟨0,D,by omega,rfl,rfl,rfl,W0,E0⟩
 case round =>
  obtain⟨k,db,hk,rfl,rfl,QP,A,m⟩:=hrel;have e8:=(m.cell (p:=(J X 0 Y)) x).trans c8;have Bk:=yi L ⟨t,tx⟩ t k;obtain⟨hlen1,ex⟩:=Bk;have HL2:=ae ex;clear ex;by_cases o:k<L.length
  ·obtain⟨b,off,rfl,hr⟩:=(jO O4).resolve_left (by omega)
   obtain⟨p0,p1⟩:=hr.2 k o;have bt:b<u:=by have:=hr.1;have:=g.out;omega
   have d0:=(m.cell (p:=(J b (off+k*2) Y)) bt).trans p0;have d1:=(m.cell (p:=(J b (off+k*2+1) Y)) bt).trans p1;clear hr;cases db with
   | true =>
    have HI:Hid (bU L ⟨t,tx⟩ t (k+1)=bU L ⟨t,tx⟩ t k++[aP L k]):=by show(if _ then _ else _)=_;rw[a8 (by rw[<-QP.out];simp)]
    have HN:Hid (QC=dq L t (k+1)):=by show QC=(dq L t k || _);rw[<-QP.out];rfl
    go_wp2_with (at_builtin;(refine CD _ rfl (.tmp 63) (.tmp 69) 23 rfl u 104 QL (QE #[U ⟨#[]⟩,U ⟨#[]⟩]) 2 32 Tryz.underlying23 M QN QO P rfl (by decide) _ (bU L ⟨t,tx⟩ t k).length ((bU L ⟨t,tx⟩ t k).flatMap bC) (by simp[Act.eval]) (A.alloc _) (J wr.heap.size 0 Y) 1 1 (bC (aP L k)) (by simp[Act.eval]) rfl (cT wr _ _ _) (by simp[bC,Value.oneCell']) (by unfold maxLen;omega) (by omega) (by have:=m.size;have:=g.out;simp;omega) ?_;intro vy wy l f q;have OY:=ae l;have BY:=ae (bg (m.alloc (by have:=m.size;have:=g.out;omega) (T #[U (aP L k).name,U (aP L k).text] 104)) f (by have:=m.size;have:=g.out;simp;omega) (fun j e=>(A.lt j e).1));clear l f q));exact⟨⟨k+1,QC,by omega,by go_num,rfl,HN,by show World.ownsRow _ _ _ _ _ _ _;rw[HI.out,cM,IC];simpa using OY.out,BY⟩,by simp[intOf];omega⟩
   | false =>
    cases hq:ay t (aP L k).name with
    | true =>
     have HI:Hid (bU L ⟨t,tx⟩ t (k+1)=bU L ⟨t,tx⟩ t k++[⟨t,tx⟩]++[aP L k]):=by show(if _ then _ else _)=_;rw[eT ⟨QP.symm,hq⟩]
     have HN:Hid (QC=dq L t (k+1)):=by show QC=(dq L t k || _);rw[hq];simp
     obtain⟨QH,q2⟩:=ib hq;clear hq;go_wp2_with (at_builtin;first | (refine CD _ rfl (.tmp 57) (.tmp 61) 23 rfl u 104 QL (QE #[U ⟨#[]⟩,U ⟨#[]⟩]) 2 32 Tryz.underlying23 M QN QO P rfl (by decide) _ (bU L ⟨t,tx⟩ t k).length ((bU L ⟨t,tx⟩ t k).flatMap bC) (by simp[Act.eval]) (A.alloc _) (J wr.heap.size 0 Y) 1 1 (bC ⟨t,tx⟩) (by simp[Act.eval]) rfl (cT wr _ _ _) (by simp[bC,Value.oneCell']) (by unfold maxLen;omega) (by omega) (by have:=m.size;have:=g.out;simp;omega) ?_;intro vx wx l f q;have OX:=ae l;have BX:=ae (bg (m.alloc (by have:=m.size;have:=g.out;omega) (T #[U t,U tx] 104)) f (by have:=m.size;have:=g.out;simp;omega) (fun j e=>(A.lt j e).1));have f8:=(BX.cell (p:=(J X 0 Y)) x).trans c8;have g0:=(BX.cell (p:=(J b (off+k*2) Y)) bt).trans p0;have g1:=(BX.cell (p:=(J b (off+k*2+1) Y)) bt).trans p1;clear l f q) | (refine CD _ rfl (.tmp 63) (.tmp 69) 23 rfl u 104 QL (QE #[U ⟨#[]⟩,U ⟨#[]⟩]) 2 32 Tryz.underlying23 M QN QO P rfl (by decide) _ ((bU L ⟨t,tx⟩ t k).length+1) ((bU L ⟨t,tx⟩ t k).flatMap bC++bC ⟨t,tx⟩) (by simp[Act.eval]) (OX.alloc _) (J wx.heap.size 0 Y) 1 1 (bC (aP L k)) (by simp[Act.eval]) rfl (cT wx _ _ _) (by simp[bC,Value.oneCell']) (by unfold maxLen;omega) (by omega) (by have:=BX.size;have:=g.out;simp;omega) ?_;intro vy wy l f q;have OY:=ae l;have BY:=ae (bg (BX.alloc (by have:=BX.size;have:=g.out;omega) (T #[U (aP L k).name,U (aP L k).text] 104)) f (by have:=BX.size;have:=g.out;simp;omega) (fun j e=>(OX.lt j e).1));clear l f q));exact⟨⟨k+1,QC,by omega,by go_num,rfl,HN,by show World.ownsRow _ _ _ _ _ _ _;rw[HI.out,cM,cM,IC,IC];simpa using OY.out,BY⟩,by simp[intOf];omega⟩
    | false =>
     have HI:Hid (bU L ⟨t,tx⟩ t (k+1)=bU L ⟨t,tx⟩ t k++[aP L k]):=by show(if _ then _ else _)=_;rw[a8 (by rw[hq];simp)]
     have HN:Hid (D=dq L t (k+1)):=by show D=(dq L t k || _);rw[<-QP.out,hq];rfl
     have HQ:=ae (iZ hq);clear hq;rcases HQ.out with QH | ⟨QH,q2⟩
     all_goals
      go_wp2_with (at_builtin;(refine CD _ rfl (.tmp 63) (.tmp 69) 23 rfl u 104 QL (QE #[U ⟨#[]⟩,U ⟨#[]⟩]) 2 32 Tryz.underlying23 M QN QO P rfl (by decide) _ (bU L ⟨t,tx⟩ t k).length ((bU L ⟨t,tx⟩ t k).flatMap bC) (by simp[Act.eval]) (A.alloc _) (J wr.heap.size 0 Y) 1 1 (bC (aP L k)) (by simp[Act.eval]) rfl (cT wr _ _ _) (by simp[bC,Value.oneCell']) (by unfold maxLen;omega) (by omega) (by have:=m.size;have:=g.out;simp;omega) ?_;intro vy wy l f q;have OY:=ae l;have BY:=ae (bg (m.alloc (by have:=m.size;have:=g.out;omega) (T #[U (aP L k).name,U (aP L k).text] 104)) f (by have:=m.size;have:=g.out;simp;omega) (fun j e=>(A.lt j e).1));clear l f q));exact⟨⟨k+1,D,by omega,by go_num,rfl,HN,by show World.ownsRow _ _ _ _ _ _ _;rw[HI.out,cM,IC];simpa using OY.out,BY⟩,by simp[intOf];omega⟩
  ·have e:L.length=k:=by omega
   subst e;cases db with
   | true =>
    have O:gB L ⟨t,tx⟩ t=bU L ⟨t,tx⟩ t L.length:=by unfold gB;rw[eT QP.symm]
    obtain⟨va,vc,rfl⟩:=bh A;have OF:Hid (wr.ownsRow u 104 2 (Z va (bU L ⟨t,tx⟩ t L.length).length vc) LS.length (LS.flatMap bC)):=by show World.ownsRow _ _ _ _ _ _ _;rw[z.out,O];exact A
    have aq:=g.out;have ld:=S.out;have H1:=ae aq;have H2:=ae ld;have H3:=ae O;have e9:=(m.cell (p:=(J X 1 Y)) x).trans c9;have y8:=(m.frozen (p:=(J X 0 Y)) x).trans K8.z0;obtain⟨r0,q0⟩:=(X4.below m (by omega)).r0;obtain⟨r1,QH⟩:=(X4.below m (by omega)).r1;clear aq ld O;go_wp2;have aq:=g.out;have ld:=S.out;exact bp (v:=.tuple #[QE #[Z va (bU L ⟨t,tx⟩ t L.length).length vc,Z QG R.length V],Q I 0]) (by simp[results,Tryz.results12,go_sem,r0,r1]) rfl ⟨_,_,R,rfl,aI (aG (aG (aG OF (R:=X) (j:=0) (by omega) _) (R:=w.heap.size+1) (j:=0) (by omega) _) (R:=w.heap.size+1) (j:=1) (by omega) _) (by omega),jo (((RX _ ((fd.trans (m.mono (by omega))).setCell (p:=(J X 0 Y)) lr _)).set (X:=w.heap.size+1) (j:=0) (by omega) _).set (X:=w.heap.size+1) (j:=1) (by omega) _) (by omega),HM,(((B4.trans (m.mono (by omega))).setCell (by simp;omega) _).setCell (by simp) _).setCell (by simp) _⟩
   | false =>
    go_wp2_with (at_builtin;(refine CD _ rfl (.tmp 73) (.tmp 77) 23 rfl u 104 QL (QE #[U ⟨#[]⟩,U ⟨#[]⟩]) 2 32 Tryz.underlying23 M QN QO P rfl (by decide) _ (bU L ⟨t,tx⟩ t L.length).length ((bU L ⟨t,tx⟩ t L.length).flatMap bC) (by simp[Act.eval]) (A.alloc _) (J wr.heap.size 0 Y) 1 1 (bC ⟨t,tx⟩) (by simp[Act.eval]) rfl (cT wr _ _ _) (by simp[bC,Value.oneCell']) (by unfold maxLen;omega) (by omega) (by have:=m.size;have:=g.out;simp;omega) ?_;intro vz wz l f q;obtain⟨gs,cs,rfl⟩:=dS l (by omega);have OZ:=ae l;have QK:=ae (bg (m.alloc (by have:=m.size;have:=g.out;omega) (T #[U t,U tx] 104)) f (by have:=m.size;have:=g.out;simp;omega) (fun j e=>(A.lt j e).1));have f8:=(QK.cell (p:=(J X 0 Y)) x).trans c8;have f9:=(QK.cell (p:=(J X 1 Y)) x).trans c9;have y8:=(QK.frozen (p:=(J X 0 Y)) x).trans K8.z0;obtain⟨r0,q0⟩:=(X4.below QK (by have:=g.out;have:=S.out;omega)).r0;obtain⟨r1,QH⟩:=(X4.below QK (by have:=g.out;have:=S.out;omega)).r1;clear l f q));have O:gB L ⟨t,tx⟩ t=bU L ⟨t,tx⟩ t L.length++[⟨t,tx⟩]:=by unfold gB;rw[a8 (by rw[<-QP.out];simp)]
    have OF:Hid (wz.ownsRow u 104 2 (Z (N (J gs 0 Y)) ((bU L ⟨t,tx⟩ t L.length).length+1) cs) LS.length (LS.flatMap bC)):=by show World.ownsRow _ _ _ _ _ _ _;rw[z.out,O,cM,IC];simpa using OZ.out
    have aq:=g.out;have ld:=S.out;exact bp (v:=.tuple #[QE #[Z (N (J gs 0 Y)) ((bU L ⟨t,tx⟩ t L.length).length+1) cs,Z QG R.length V],Q I 0]) (by simp[results,Tryz.results12,go_sem,r0,r1]) rfl ⟨_,_,R,rfl,aI (aG (aG (aG OF (R:=X) (j:=0) (by omega) _) (R:=w.heap.size+1) (j:=0) (by omega) _) (R:=w.heap.size+1) (j:=1) (by omega) _) (by omega),jo (((RX _ ((fd.trans (QK.mono (by omega))).setCell (p:=(J X 0 Y)) lr _)).set (X:=w.heap.size+1) (j:=0) (by omega) _).set (X:=w.heap.size+1) (j:=1) (by omega) _) (by omega),HM,(((B4.trans (QK.mono (by omega))).setCell (by simp;omega) _).setCell (by simp) _).setCell (by simp) _⟩
theorem cJ {L:List Source}{i:Nat}(h:i<L.length):aP L i=L[i]:=by rw[aP,vG,gq h];rfl
theorem gC {g:Nat->ByteArray}{n:Nat}(h:∀ i j,i<j->j<n->ay (g i) (g j)=QC):aE g n=QC:=by
 induction n with
 | zero=>rfl
 | succ k d =>
  have h1:=d (fun i j b hj=>h i j b (by omega));cases k with
  | zero=>rfl
  | succ m =>show(aE g (m+1) && _)=QC;rw[h1];exact h m (m+1) (by omega) (by omega)
theorem lW {f:Nat->Source}{n:Nat}{t:ByteArray}:∀ y∈keepS f t n,(y.name.toList == t.toList)=D:=by intro y b;simpa using(NB.1 b).2
theorem km {L:List Source}{x:Source}{t:ByteArray}{i:Nat}(hi:i<=L.length)(h1:∀ m,m<i->ay (nm0 (aP L) m) t=QC):∀ k,k<=i->dq L t k=D/\bU L x t k=L.take k
 | 0,_=>⟨rfl,rfl⟩
 | k+1,hk=>by
  obtain⟨f,d⟩:=km (x:=x) hi h1 k (by omega);have b:ay t (aP L k).name=D:=(ib (h1 k (by omega))).1;refine⟨?_,?_⟩
  ·show(dq L t k || ay t (aP L k).name)=D
   rw[f,b];rfl
  ·show(if _ then _ else _)=_
   rw[a8 (by rw[b];simp),d,cJ (by omega)];exact J0 (by omega)
theorem oB {L:List Source}{x:Source}{t:ByteArray}{i:Nat}(hi:i<=L.length)(h1:∀ m,m<i->ay (nm0 (aP L) m) t=QC)(h2:∀ m,i<=m->m<L.length->ay (nm0 (aP L) m) t=D)(j:∀ y∈L,(y.name.toList == t.toList)=D):∀ d,i+d+1<=L.length->dq L t (i+d+1)=QC/\bU L x t (i+d+1)=L.take i++x :: (L.drop i).take (d+1)
 | 0,hd=>by
  obtain⟨a1,g⟩:=km (x:=x) hi h1 i lr;have b:i<L.length:=by omega
  have k:ay t (aP L i).name=QC:=by
   cases h:ay t (aP L i).name with
   | true=>rfl
   | false =>
    rcases iZ h with f | ⟨_,f⟩
    ·have:=h2 i lr b
     rw[show nm0 (aP L) i=(aP L i).name from rfl,f] at this;cases this
    ·rw[cJ b,j _ (gz b)] at f
     cases f
  refine⟨?_,?_⟩
  ·show(dq L t i || ay t (aP L i).name)=QC
   rw[k];simp
  ·show(if _ then _ else _)=_
   have e:(L.drop i).take (0+1)=[L[i]]:=by rw[LC b];rfl
   rw[eT ⟨a1,k⟩,g,cJ b,e];simp
 | d+1,hd=>by
  obtain⟨a1,g⟩:=oB (x:=x) hi h1 h2 j d (by omega);refine⟨?_,?_⟩
  ·show(dq L t (i+d+1) || _)=QC
   rw[a1];rfl
  ·show(if _ then _ else _)=_
   rw[a8 (by rw[show i+(d+1)=i+d+1 from rfl,a1];simp)];show bU L x t (i+d+1)++[aP L (i+d+1)]=_;have l:d+1<(L.drop i).length:=by rw[II];omega
   rw[g,cJ (by omega),<-J0 l,MB];simp[LH]
theorem uL {L:List Source}{x:Source}{t:ByteArray}{i:Nat}(hi:i<=L.length)(h1:∀ m,m<i->ay (nm0 (aP L) m) t=QC)(h2:∀ m,i<=m->m<L.length->ay (nm0 (aP L) m) t=D)(f:∀ y∈L,(y.name.toList == t.toList)=D):gB L x t=L.take i++x :: L.drop i:=by
 by_cases h:i=L.length
 ·subst h
  obtain⟨a1,b⟩:=km (x:=x) hi h1 L.length lr;unfold gB;rw[a8 (by rw[a1];simp),b];simp
 ·obtain⟨d,g⟩:∃ d,L.length=i+d+1:=⟨L.length - i - 1,by omega⟩
  obtain⟨a1,b⟩:=oB (x:=x) hi h1 h2 f d (by omega);unfold gB;have e:(L.drop i).take (d+1)=L.drop i:=IZ (by rw[II];omega);rw[g,eT a1,b,e]
def fN (n0:Nat)(f0:Nat->Source)(n1:Nat)(f1:Nat->Target)(t:ByteArray)(b:Bool):Int :=
 if aU n0 f0 n1 f1≠0 then 1 else if au t=D∨b=D then 2 else if 200<=(keepS f0 t n0).length+(keepT f1 t n1).length then 3 else 0
def dL (g:Nat->ByteArray)(t:ByteArray):Nat->Bool
 | 0=>D
 | k+1=>dL g t k || ay t (g k)
def eB {b:Type}(g:Nat->ByteArray)(F:Nat->b)(x:b)(t:ByteArray):Nat->List b
 | 0=>[]
 | k+1=>if dL g t k=D/\ay t (g k)=QC then eB g F x t k++[x]++[F k] else eB g F x t k++[F k]
def jE {b:Type}(g:Nat->ByteArray)(F:Nat->b)(x:b)(t:ByteArray)(n:Nat):List b:=if dL g t n=QC then eB g F x t n else eB g F x t n++[x]
theorem Ah {b:Type}(g:Nat->ByteArray)(F:Nat->b)(x:b)(t:ByteArray)(k:Nat):(eB g F x t k).length<=k+1/\(dL g t k=D->(eB g F x t k).length=k):=by
 induction k with
 | zero=>simp[eB]
 | succ j d =>
  simp only[eB,dL];cases hd:dL g t j with
  | false =>
   have h1:=d.2 hd;cases hl:ay t (g j) with
   | true=>simp[h1]
   | false=>simp[h1]
  | true =>have h1:=d.1;simp;omega
theorem ss {b d:Type}(p:b->d)(g:Nat->ByteArray)(F:Nat->b)(x:b)(t:ByteArray)(k:Nat):(eB g F x t k).map p=eB g (fun i=>p (F i)) (p x) t k:=by
 induction k with
 | zero=>rfl
 | succ j f =>simp only[eB];split<;>simp[f]
theorem Ai {b d:Type}(p:b->d)(g:Nat->ByteArray)(F:Nat->b)(x:b)(t:ByteArray)(n:Nat):(jE g F x t n).map p=jE g (fun i=>p (F i)) (p x) t n:=by
 unfold jE;split
 ·exact ss p g F x t n
 ·rw[FB,ss];rfl
theorem jF {b:Type}{g:Nat->ByteArray}{L:List b}{d x:b}{t:ByteArray}{i:Nat}(hi:i<=L.length)(h1:∀ m,m<i->ay (g m) t=QC):∀ k,k<=i->dL g t k=D/\eB g (fun j=>L.getD j d) x t k=L.take k
 | 0,_=>⟨rfl,rfl⟩
 | k+1,hk=>by
  obtain⟨h,l⟩:=jF (d:=d) (x:=x) hi h1 k (by omega);have f:ay t (g k)=D:=(ib (h1 k (by omega))).1;have e:L.getD k d=L[k]'(by omega):=by rw[vG,gq (by omega)];rfl
  refine⟨?_,?_⟩
  ·show(dL g t k || ay t (g k))=D
   rw[h,f];rfl
  ·show(if _ then _ else _)=_
   rw[a8 (by rw[f];simp),l];show L.take k++[L.getD k d]=_;rw[e];exact J0 (by omega)
theorem mM {n:Type}{g:Nat->ByteArray}{L:List n}{d x:n}{t:ByteArray}{i:Nat}(hi:i<=L.length)(h1:∀ m,m<i->ay (g m) t=QC)(h2:∀ m,i<=m->m<L.length->ay (g m) t=D)(o:∀ m,m<L.length->((g m).toList == t.toList)=D):∀ e,i+e+1<=L.length->dL g t (i+e+1)=QC/\eB g (fun j=>L.getD j d) x t (i+e+1)=L.take i++x :: (L.drop i).take (e+1)
 | 0,hd=>by
  obtain⟨a1,l⟩:=jF (d:=d) (x:=x) hi h1 i lr;have b:i<L.length:=by omega
  have p:ay t (g i)=QC:=by
   cases h:ay t (g i) with
   | true=>rfl
   | false =>
    rcases iZ h with f | ⟨_,f⟩
    ·have:=h2 i lr b
     rw[f] at this;cases this
    ·rw[o _ b] at f
     cases f
  have e:L.getD i d=L[i]:=by rw[vG,gq b];rfl
  refine⟨?_,?_⟩
  ·show(dL g t i || ay t (g i))=QC
   rw[p];simp
  ·show(if _ then _ else _)=_
   have r:(L.drop i).take (0+1)=[L[i]]:=by rw[LC b];rfl
   rw[eT ⟨a1,p⟩,l];show L.take i++[x]++[L.getD i d]=_;rw[e,r];simp
 | k+1,hd=>by
  obtain⟨a1,l⟩:=mM (d:=d) (x:=x) hi h1 h2 o k (by omega);have q:k+1<(L.drop i).length:=by rw[II];omega
  have e:L.getD (i+k+1) d=L[i+k+1]'(by omega):=by rw[vG,gq (by omega)];rfl
  refine⟨?_,?_⟩
  ·show(dL g t (i+k+1) || _)=QC
   rw[a1];rfl
  ·show(if _ then _ else _)=_
   rw[a8 (by rw[show i+(k+1)=i+k+1 from rfl,a1];simp)];show eB g (fun j=>L.getD j d) x t (i+k+1)++[L.getD (i+k+1) d]=_;rw[l,e,<-J0 q,MB];simp[LH]
theorem uM {f:Type}{g:Nat->ByteArray}{L:List f}{d x:f}{t:ByteArray}{i:Nat}(hi:i<=L.length)(h1:∀ m,m<i->ay (g m) t=QC)(h2:∀ m,i<=m->m<L.length->ay (g m) t=D)(l:∀ m,m<L.length->((g m).toList == t.toList)=D):jE g (fun j=>L.getD j d) x t L.length=L.take i++x :: L.drop i:=by
 by_cases h:i=L.length
 ·subst h
  obtain⟨a1,b⟩:=jF (d:=d) (x:=x) hi h1 L.length lr;unfold jE;rw[a8 (by rw[a1];simp),b];simp
 ·obtain⟨k,n⟩:∃ k,L.length=i+k+1:=⟨L.length - i - 1,by omega⟩
  obtain⟨a1,b⟩:=mM (d:=d) (x:=x) hi h1 h2 l k (by omega);unfold jE;have e:(L.drop i).take (k+1)=L.drop i:=IZ (by rw[II];omega);rw[n,eT a1,b,e]
theorem dt {L:List Target}{i:Nat}(h:i<L.length):bo L i=L[i]:=by rw[bo,vG,gq h];rfl
theorem EY {g:Nat->ByteArray}{n:Nat}(h:∀ i j,i<j->j<n->ay (g i) (g j)=QC):aE g n=QC:=by
 induction n with
 | zero=>rfl
 | succ k d =>
  have h1:=d (fun i j b hj=>h i j b (by omega));cases k with
  | zero=>rfl
  | succ m =>show(aE g (m+1) && _)=QC;rw[h1];exact h m (m+1) (by omega) (by omega)
def ko (K:List Target)(x:Target)(t:ByteArray):List Target:=jE (nm1 (bo K)) (fun j=>K.getD j dfT) x t K.length
end Go.Proofs.YtkdimgejdocbbaaGreatDoor.Vp
