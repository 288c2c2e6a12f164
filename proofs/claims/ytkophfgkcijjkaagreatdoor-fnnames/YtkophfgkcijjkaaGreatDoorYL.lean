import Derived.Test.YtkophfgkcijjkaaGreatDoorZU
import Derived.Test.YtkophfgkcijjkaaGreatDoorZP
import Derived.Test.YtkophfgkcijjkaaGreatDoorYK
set_option maxRecDepth 100000
set_option maxHeartbeats 8000000
namespace Go.Proofs.YtkophfgkcijjkaaGreatDoor.Vp
open RowKit Go.Sort
theorem mL:∀ a b:List UInt8,decide (Lib.compareBytes a b<0)=Op.bytesLess a b
 | [],[]=>by simp[Lib.compareBytes,Op.bytesLess]
 | [],_ :: _=>by simp[Lib.compareBytes,Op.bytesLess]
 | _ :: _,[]=>by simp[Lib.compareBytes,Op.bytesLess]
 | a :: x,b :: y=>by
  have g:=mL x y;rw[Lib.compareBytes,Op.bytesLess,<-g];by_cases c:a<b
  ·simp[c]
  ·rw[if_neg c]
   by_cases f:b<a
   ·have d:¬ a=b:=fun e=>by subst e;exact c f
    simp[c,f,d]
   ·have d:a=b:=UInt8.le_antisymm (UInt8.not_lt.1 f) (UInt8.not_lt.1 c)
    subst d;simp[c]
theorem lu:∀ a b:List UInt8,decide (Lib.compareBytes a b=0)=(a == b)
 | [],[]=>by simp[Lib.compareBytes]
 | [],_ :: _=>by simp[Lib.compareBytes]
 | _ :: _,[]=>by simp[Lib.compareBytes]
 | a :: x,b :: y=>by
  have g:=lu x y;rw[Lib.compareBytes];by_cases d:a<b
  ·have c:¬ a=b:=fun e=>by subst e;exact(UInt8.lt_irrefl _ d)
   simp[d,c]
  ·rw[if_neg d]
   by_cases f:b<a
   ·have c:¬ a=b:=fun e=>by subst e;exact d f
    simp[f,c]
   ·have c:a=b:=UInt8.le_antisymm (UInt8.not_lt.1 f) (UInt8.not_lt.1 d)
    subst c;rw[if_neg f,g];simp
end Go.Proofs.YtkophfgkcijjkaaGreatDoor.Vp
namespace Go.Proofs.YtkophfgkcijjkaaGreatDoor.Vp
open RowKit
def bw (f:Nat->Source)(t:ByteArray)(k:Nat):List Source:=((List.range k).map f).filter fun x=>!(x.name.toList == t.toList)
def ce (f:Nat->Target)(t:ByteArray)(k:Nat):List Target:=((List.range k).map f).filter fun x=>!(x.name.toList == t.toList)
theorem sU {f:Nat->Source}{t:ByteArray}{k:Nat}(h:((f k).name.toList == t.toList)=true):bw f t (k+1)=bw f t k:=by simp only[bw,List.range_succ,List.map_append,List.filter_append];simp[h]
theorem sV {f:Nat->Source}{t:ByteArray}{k:Nat}(h:((f k).name.toList == t.toList)=false):bw f t (k+1)=bw f t k++[f k]:=by simp only[bw,List.range_succ,List.map_append,List.filter_append];simp[h]
theorem sW {f:Nat->Target}{t:ByteArray}{k:Nat}(h:((f k).name.toList == t.toList)=true):ce f t (k+1)=ce f t k:=by simp only[ce,List.range_succ,List.map_append,List.filter_append];simp[h]
theorem sX {f:Nat->Target}{t:ByteArray}{k:Nat}(h:((f k).name.toList == t.toList)=false):ce f t (k+1)=ce f t k++[f k]:=by simp only[ce,List.range_succ,List.map_append,List.filter_append];simp[h]
theorem jQ (f:Nat->Source)(t:ByteArray)(k:Nat):(bw f t k).length<=k:=by have:=List.length_filter_le (fun x:Source=>!(x.name.toList == t.toList)) ((List.range k).map f);simpa[bw] using this
theorem jR (f:Nat->Target)(t:ByteArray)(k:Nat):(ce f t k).length<=k:=by have:=List.length_filter_le (fun x:Target=>!(x.name.toList == t.toList)) ((List.range k).map f);simpa[ce] using this
theorem dA {w:World}{b size n:Nat}{e:TypeId}{v:Value}{c:List Value}(h:w.ownsRow b e size v n c)(hn:0<n):∃ g cap,v=.slice (some ⟨g,0,none⟩) n cap:=by
 rcases h.2 with ⟨_,h0⟩ | ⟨g,cap,cur,rfl,_⟩
 ·omega
 ·exact⟨g,cap,rfl⟩
theorem aL {w:World}{b size n:Nat}{e:TypeId}{v:Value}{c:List Value}(h:w.ownsRow b e size v n c):∃ a cap,v=.slice a n cap:=by
 rcases h.2 with ⟨rfl,rfl⟩ | ⟨g,cap,cur,rfl,_⟩
 ·exact⟨_,_,rfl⟩
 ·exact⟨_,_,rfl⟩
theorem da (w:World)(x y:Value)(t:TypeId):∀ j u,[x,y][j]?=some u->(w.alloc (.cells #[x,y] t)).cell? ((⟨w.heap.size,0,none⟩:Addr).add j)=some u:=by
 intro j u b;rw[addr_add,Nat.zero_add];match j,b with
 | 0,b=>simp at b;subst b;simp
 | 1,b=>simp at b;subst b;simp
abbrev TR:=Target × Nat × Nat
def aU (r:TR):List Value:=[.string r.1.name,.slice (some ⟨r.2.1,0,none⟩) r.1.actN r.2.2]
structure TRow (w:World)(base:Nat)(v:Value)(R:List TR):Prop where
 own:w.ownsRow base 104 2 v R.length (R.flatMap aU)
 act:∀ r∈R,RowIns w r.2.1 0 r.1.actN r.1.act/\(∃ F,Cells w r.2.1 0 (r.1.actN*3) F)/\TypeAt w r.2.1 176/\base<=r.2.1
 up:R.Pairwise fun a b=>a.2.1≠b.2.1
theorem TypeAt.block {w b:World}{g:Nat}{e:TypeId}(h:TypeAt w g e)(hb:b.heap[g]?=w.heap[g]?):TypeAt b g e:=by obtain⟨c,d⟩:=h;exact⟨c,hb.trans d⟩
theorem RowIns.block {w b:World}{g off n:Nat}{f:Nat->Ins}(h:RowIns w g off n f)(hz:w.heap.size<=b.heap.size)(hb:b.heap[g]?=w.heap[g]?):RowIns b g off n f:=by refine⟨lj h.1 hz,fun i hi=>?_⟩;obtain⟨c,d,j⟩:=h.2 i hi;exact⟨(cq (a:=⟨g,_,none⟩) hb).trans c,(cq (a:=⟨g,_,none⟩) hb).trans d,(cq (a:=⟨g,_,none⟩) hb).trans j⟩
theorem Cells.block {w c:World}{b off m:Nat}{F:Nat->Value}(h:Cells w b off m F)(hz:w.heap.size<=c.heap.size)(e:c.heap[b]?=w.heap[b]?):Cells c b off m F :=
 ⟨lj h.1 hz,fun j d=>⟨(cq (a:=⟨b,off+j,none⟩) e).trans (h.2 j d).1,(World.frozen?_of_block (a:=⟨b,off+j,none⟩) e).trans (h.2 j d).2⟩⟩
theorem TRow.below {w c:World}{b B:Nat}{v:Value}{R:List TR}(h:TRow w b v R)(hb:Below B w c)(f:w.heap.size<=B):TRow c b v R:=by refine⟨own_below h.own hb f,fun r j=>?_,h.up⟩;obtain⟨d,⟨F,k⟩,g,i⟩:=h.act r j;have e:=hb.block r.2.1 (lj d.1 f);exact⟨d.block hb.size e,⟨F,k.block hb.size e⟩,g.block e,i⟩
theorem TRow.set {w:World}{b X j:Nat}{v:Value}{R:List TR}(h:TRow w b v R)(hX:X<b)(u:Value):TRow (w.setCell ⟨X,j,none⟩ u) b v R:=by refine⟨aD h.own hX u,fun r d=>?_,h.up⟩;obtain⟨g,⟨F,i⟩,c,f⟩:=h.act r d;have e:(w.setCell ⟨X,j,none⟩ u).heap[r.2.1]?=w.heap[r.2.1]?:=qh _ _ _ _ (by simp;omega);exact⟨g.block (by simp) e,⟨F,i.block (by simp) e⟩,c.block e,f⟩
theorem cL (w:World)(b:Nat):TRow w b (.slice none 0 0) []:=⟨World.ownsRow_nil _ _ _ _,fun r c=>absurd c (by simp),List.Pairwise.nil⟩
theorem TRow.type {w:World}{c:Nat}{v:Value}{R:List TR}(h:TRow w c v R):∀ k,v.ownBlock=some k->TypeAt w k 104:=by
 intro k b;rcases h.own.2 with ⟨rfl,_⟩ | ⟨g,cap,d,rfl,_,f,_⟩
 ·simp[Value.ownBlock] at b
 ·simp[Value.ownBlock] at b
  subst b;exact⟨d,f⟩
theorem TRow.more {w m q:World}{d g c:Nat}{v u:Value}{R:List TR}{x:Target}(h:TRow w d v R)(hb:Below w.heap.size w m)(hg:w.heap.size<=g)(n:d<=g)
  (z:m.ownsRow d 176 3 (.slice (some ⟨g,0,none⟩) x.actN c) x.actN (bI x.act x.actN)) (t:q.ownsRow d 104 2 u (R.length+1) (R.flatMap aU++aU (x,g,c))) (f:m.grownBy q v.ownBlock):TRow q d u (R++[(x,g,c)]):=by
 have o:∀ k,TypeAt m k 176->some k≠v.ownBlock:=fun k D e=>by have B:=(h.below hb ly).type k e.symm;exact dU D B (by decide) rfl
 have y:∀ r∈R,r.2.1<w.heap.size:=fun r i=>(h.act r i).1.1;refine⟨by simpa using t,fun r i=>?_,?_⟩
 ·rcases List.mem_append.1 i with i | i
  ·obtain⟨l,⟨F,s⟩,j,C⟩:=(h.below hb ly).act r i
   have e:=f.block r.2.1 l.1 (o _ j);exact⟨l.block f.size e,⟨F,s.block f.size e⟩,j.block e,C⟩
  ·simp at i
   subst i;obtain⟨l,F,s⟩:=kf z;have j:=ei z;have e:=f.block g l.1 (o _ j);exact⟨l.block f.size e,⟨F,s.block f.size e⟩,j.block e,n⟩
 ·rw[List.pairwise_append]
  refine⟨h.up,by simp,fun a A b p=>?_⟩;simp at p;subst p;have:=y a A;show a.2.1≠g;omega
theorem um {w:World}{b0 m s0 s1 n0 n1:Nat}{i d:TypeId}{b j:Value}{q l:List Value}(o:w.ownsRow b0 i s0 b n0 q)(p:w.ownsRow m d s1 j n1 l)(f:i≠d):b.ownBlock=none∨b.ownBlock≠j.ownBlock:=by
 rcases o.2 with ⟨rfl,_⟩ | ⟨g,cap,k,rfl,_,n,_⟩
 ·exact .inl rfl
 ·right
  rcases p.2 with ⟨rfl,_⟩ | ⟨g',cap',c,rfl,_,h,_⟩
  ·simp[Value.ownBlock]
  ·simp only[Value.ownBlock,ne_eq,Option.some.injEq]
   exact dU ⟨k,n⟩ ⟨c,h⟩ f
structure Boxes (w:World)(h:Nat)(p0 p1 v0 v1:Value):Prop where
 lt:h+2<w.heap.size
 a0:w.cell? ⟨h,0,none⟩=some p0
 a1:w.cell? ⟨h,1,none⟩=some p1
 r0:w.cell? ⟨h+1,0,none⟩=some (.slice none 0 0)/\w.frozen? ⟨h+1,0,none⟩=false
 r1:w.cell? ⟨h+1,1,none⟩=some (.slice none 0 0)/\w.frozen? ⟨h+1,1,none⟩=false
 o0:w.cell? ⟨h+1+1,0,none⟩=some v0/\w.frozen? ⟨h+1+1,0,none⟩=false
 o1:w.cell? ⟨h+1+1,1,none⟩=some v1/\w.frozen? ⟨h+1+1,1,none⟩=false
theorem Boxes.below {w d:World}{h B:Nat}{m l i j:Value}(b:Boxes w h m l i j)(hb:Below B w d)(hB:h+3<=B):Boxes d h m l i j:=by have c:∀ k o,k<B->d.cell? ⟨k,o,none⟩=w.cell? ⟨k,o,none⟩:=fun k o g=>hb.cell (p:=⟨k,o,none⟩) g;have f:∀ k o,k<B->d.frozen? ⟨k,o,none⟩=w.frozen? ⟨k,o,none⟩:=fun k o g=>hb.frozen (p:=⟨k,o,none⟩) g;exact⟨lj b.lt hb.size,(c _ _ (by omega)).trans b.a0,(c _ _ (by omega)).trans b.a1,⟨(c _ _ (by omega)).trans b.r0.1,(f _ _ (by omega)).trans b.r0.2⟩,⟨(c _ _ (by omega)).trans b.r1.1,(f _ _ (by omega)).trans b.r1.2⟩,⟨(c _ _ (by omega)).trans b.o0.1,(f _ _ (by omega)).trans b.o0.2⟩,⟨(c _ _ (by omega)).trans b.o1.1,(f _ _ (by omega)).trans b.o1.2⟩⟩
theorem Boxes.set0 {w:World}{h:Nat}{f d g c:Value}(b:Boxes w h f d g c)(u:Value):Boxes (w.setCell ⟨h+1+1,0,none⟩ u) h f d u c:=by have e:∀ k o,k≠h+1+1->(w.setCell ⟨h+1+1,0,none⟩ u).cell? ⟨k,o,none⟩=w.cell? ⟨k,o,none⟩:=fun k o i=>cell_far _ _ _ _ (by simpa using fun e=>i e.symm);exact⟨by simpa using b.lt,(e _ _ (by omega)).trans b.a0,(e _ _ (by omega)).trans b.a1,⟨(e _ _ (by omega)).trans b.r0.1,by simpa using b.r0.2⟩,⟨(e _ _ (by omega)).trans b.r1.1,by simpa using b.r1.2⟩,⟨World.cell?_setCell_same' _ _ _ (by rw[b.o0.1];rfl),by simpa using b.o0.2⟩,⟨(sq _ _ _ _ (by simp)).trans b.o1.1,by simpa using b.o1.2⟩⟩
theorem Boxes.set1 {w:World}{h:Nat}{f d c g:Value}(b:Boxes w h f d c g)(u:Value):Boxes (w.setCell ⟨h+1+1,1,none⟩ u) h f d c u:=by have e:∀ k o,k≠h+1+1->(w.setCell ⟨h+1+1,1,none⟩ u).cell? ⟨k,o,none⟩=w.cell? ⟨k,o,none⟩:=fun k o i=>cell_far _ _ _ _ (by simpa using fun e=>i e.symm);exact⟨by simpa using b.lt,(e _ _ (by omega)).trans b.a0,(e _ _ (by omega)).trans b.a1,⟨(e _ _ (by omega)).trans b.r0.1,by simpa using b.r0.2⟩,⟨(e _ _ (by omega)).trans b.r1.1,by simpa using b.r1.2⟩,⟨(sq _ _ _ _ (by simp)).trans b.o0.1,by simpa using b.o0.2⟩,⟨World.cell?_setCell_same' _ _ _ (by rw[b.o1.1];rfl),by simpa using b.o1.2⟩⟩
theorem un (w:World)(c b:Value)(t:TypeId):Boxes (((w.alloc (.cells #[c,b] t)).alloc (.cells #[.slice none 0 0,.slice none 0 0] t)).alloc (.cells #[.slice none 0 0,.slice none 0 0] t)) w.heap.size c b (.slice none 0 0) (.slice none 0 0):=by
 have A:Below (w.heap.size+1) (w.alloc (.cells #[c,b] t)) (((w.alloc (.cells #[c,b] t)).alloc (.cells #[.slice none 0 0,.slice none 0 0] t)).alloc (.cells #[.slice none 0 0,.slice none 0 0] t)):=(br.alloc (by simp) _).alloc (by simp) _;have C:Below (w.heap.size+1+1) ((w.alloc (.cells #[c,b] t)).alloc (.cells #[.slice none 0 0,.slice none 0 0] t)) (((w.alloc (.cells #[c,b] t)).alloc (.cells #[.slice none 0 0,.slice none 0 0] t)).alloc (.cells #[.slice none 0 0,.slice none 0 0] t)):=br.alloc (by simp) _;have hz:(w.alloc (.cells #[c,b] t)).heap.size=w.heap.size+1:=by simp
 have d:((w.alloc (.cells #[c,b] t)).alloc (.cells #[.slice none 0 0,.slice none 0 0] t)).heap.size=w.heap.size+1+1:=by simp
 refine⟨by simp,?_,?_,⟨?_,?_⟩,⟨?_,?_⟩,⟨?_,?_⟩,⟨?_,?_⟩⟩
 ·exact(A.cell (p:=⟨w.heap.size,0,none⟩) (Nat.lt_succ_self _)).trans (by simp)
 ·exact(A.cell (p:=⟨w.heap.size,1,none⟩) (Nat.lt_succ_self _)).trans (by simp)
 ·refine(C.cell (p:=⟨w.heap.size+1,0,none⟩) (Nat.lt_succ_self _)).trans ?_
  rw[<-hz];simp
 ·refine(C.frozen (p:=⟨w.heap.size+1,0,none⟩) (Nat.lt_succ_self _)).trans ?_
  rw[<-hz];simp
 ·refine(C.cell (p:=⟨w.heap.size+1,1,none⟩) (Nat.lt_succ_self _)).trans ?_
  rw[<-hz];simp
 ·refine(C.frozen (p:=⟨w.heap.size+1,1,none⟩) (Nat.lt_succ_self _)).trans ?_
  rw[<-hz];simp
 all_goals
  rw[<-d];clear A C hz d;generalize (w.alloc (.cells #[c,b] t)).alloc (.cells #[.slice none 0 0,.slice none 0 0] t)=W;simp
def jc (n0:Nat)(f0:Nat->Source)(n1:Nat)(f1:Nat->Target)(t:ByteArray):Int :=
 if bi n0 f0 n1 f1≠0 then 1 else if aw t=false then 2 else if (bS (nm0 f0) n0 t || bS (nm1 f1) n1 t)=false then 4 else 0
def gC (n0:Nat)(f0:Nat->Source)(n1:Nat)(f1:Nat->Target)(t:ByteArray):List Source:=if jc n0 f0 n1 f1 t=0 then bw f0 t n0 else []
def jd (n0:Nat)(f0:Nat->Source)(n1:Nat)(f1:Nat->Target)(t:ByteArray):List Target:=if jc n0 f0 n1 f1 t=0 then ce f1 t n1 else []
theorem gD {p:Nat->Bool}{n i:Nat}(h:cD p n=false)(hi:i<n):p i=false:=by
 cases e:p i with
 | false=>rfl
 | true=>rw[iV hi e] at h;cases h
theorem je {n0:Nat}{f0:Nat->Source}{n1:Nat}{f1:Nat->Target}(h:bi n0 f0 n1 f1=0):bP (nm0 f0) n0=true/\bP (nm1 f1) n1=true/\∀ i,i<n1->1<=(f1 i).actN:=by
 unfold bi at h;split at h;· omega
 split at h;· omega
 split at h;· omega
 split at h;· omega
 split at h;· omega
 split at h;· omega
 split at h;· omega
 split at h;· omega
 rename_i c d _ _ b;refine⟨by simpa using c,by simpa using d,fun i hi=>?_⟩;have f:=gD (by simpa using b) hi;have g:valid (f1 i).act (f1 i).actN=true:=by simpa[dk] using f
 have:=(cH g).2.1;omega
theorem fo {w:World}{b base':Nat}{v:Value}{R:List TR}(h:TRow w b v R)(hb:base'<=b):TRow w base' v R:=by refine⟨aB h.own hb,fun r f=>?_,h.up⟩;obtain⟨d,g,c,h4⟩:=h.act r f;exact⟨d,g,c,by omega⟩
structure Pair (w:World)(h:Nat)(p0 p1:Value):Prop where
 lt:h+1<w.heap.size
 a0:w.cell? ⟨h,0,none⟩=some p0
 a1:w.cell? ⟨h,1,none⟩=some p1
 r0:w.cell? ⟨h+1,0,none⟩=some (.slice none 0 0)/\w.frozen? ⟨h+1,0,none⟩=false
 r1:w.cell? ⟨h+1,1,none⟩=some (.slice none 0 0)/\w.frozen? ⟨h+1,1,none⟩=false
theorem Pair.lt' {w:World}{h:Nat}{d c:Value}(b:Pair w h d c):h+2<=w.heap.size:=b.lt
theorem Pair.below {w d:World}{h B:Nat}{j i:Value}(b:Pair w h j i)(hb:Below B w d)(hB:h+2<=B):Pair d h j i:=by have c:∀ k o,k<B->d.cell? ⟨k,o,none⟩=w.cell? ⟨k,o,none⟩:=fun k o g=>hb.cell (p:=⟨k,o,none⟩) g;have f:∀ k o,k<B->d.frozen? ⟨k,o,none⟩=w.frozen? ⟨k,o,none⟩:=fun k o g=>hb.frozen (p:=⟨k,o,none⟩) g;exact⟨lj b.lt hb.size,(c _ _ (by omega)).trans b.a0,(c _ _ (by omega)).trans b.a1,⟨(c _ _ (by omega)).trans b.r0.1,(f _ _ (by omega)).trans b.r0.2⟩,⟨(c _ _ (by omega)).trans b.r1.1,(f _ _ (by omega)).trans b.r1.2⟩⟩
theorem pm (w:World)(c b:Value)(t:TypeId):Pair ((w.alloc (.cells #[c,b] t)).alloc (.cells #[.slice none 0 0,.slice none 0 0] t)) w.heap.size c b:=by
 have A:Below (w.heap.size+1) (w.alloc (.cells #[c,b] t)) ((w.alloc (.cells #[c,b] t)).alloc (.cells #[.slice none 0 0,.slice none 0 0] t)):=br.alloc (by simp) _;have hz:(w.alloc (.cells #[c,b] t)).heap.size=w.heap.size+1:=by simp
 refine⟨by simp,(A.cell (p:=⟨w.heap.size,0,none⟩) (Nat.lt_succ_self _)).trans (by simp),(A.cell (p:=⟨w.heap.size,1,none⟩) (Nat.lt_succ_self _)).trans (by simp),⟨?_,?_⟩,⟨?_,?_⟩⟩;all_goals
  rw[<-hz];clear A hz;generalize w.alloc (.cells #[c,b] t)=W;simp
theorem pn (b off n0 c0:Nat)(a1:Option Addr)(n1 c1:Nat)(f0:Nat->Source)(t:ByteArray)(w:World)(hn0:(n0:Int)<=1048576)(f:RowSource w b off n0 f0):Calls Tryz.prog 84 #[.agg #[.slice (some ⟨b,off,none⟩) n0 c0,.slice a1 n1 c1],.string t] w fun e m=>∃ r:Int,e=.returned (.int .i64 r)/\decide (0<=r)=bS (nm0 f0) n0 t/\Below w.heap.size w m:=by
 have c:=ae ((q9 w).alloc ly (.cells #[.slice (some ⟨b,off,none⟩) n0 c0,.slice a1 n1 c1] 26));have l:=ae (f.below c.out ly);have n:(w.alloc (.cells #[.slice (some ⟨b,off,none⟩) n0 c0,.slice a1 n1 c1] 26)).cell? ⟨w.heap.size,0,none⟩=some (.slice (some ⟨b,off,none⟩) n0 c0):=by simp
 clear f;go_enter Tryz.func84,Tryz.ntmps84;go_wp2;generalize w.alloc (.cells #[.slice (some ⟨b,off,none⟩) n0 c0,.slice a1 n1 c1] 26)=W at c l n ⊢;go_loop [5] (fun i=>∃ k:Nat,k<=n0/\i=.int .i64 k/\Hid (bS (nm0 f0) k t=false)) (fun i=>n0 - (intOf i).toNat);case atStart=>exact⟨0,by omega,rfl,rfl⟩
 case round =>
  obtain⟨k,hk,rfl,j⟩:=hrel;by_cases d:k<n0
  ·obtain⟨d0,d1⟩:=l.out.2 k d
   cases hb:((f0 k).name.toList == t.toList) with
   | true =>have h:=ae hb;go_wp2;go_ret;exact⟨k,rfl,by rw[jI (g:=nm0 f0) d h.out];simp,c.out⟩
   | false =>have h:=ae hb;go_wp2;exact⟨⟨k+1,by omega,by go_num,by show bS (nm0 f0) (k+1) t=false;rw[ij,j.out];exact h.out⟩,by simp[intOf];omega⟩
  ·have e:k=n0:=by omega
   subst e;go_wp2;go_ret;exact⟨-1,rfl,by rw[j.out];rfl,c.out⟩
theorem pp (a0:Option Addr)(c0:Nat)(a1:Option Addr)(n1 c1:Nat)(g:Nat->ByteArray)(t:ByteArray)(w:World):Calls Tryz.prog 84 #[.agg #[.slice a0 0 c0,.slice a1 n1 c1],.string t] w fun e b=>∃ r:Int,e=.returned (.int .i64 r)/\decide (0<=r)=bS g 0 t/\Below w.heap.size w b:=by
 have c:=ae ((q9 w).alloc ly (.cells #[.slice a0 0 c0,.slice a1 n1 c1] 26));go_enter Tryz.func84,Tryz.ntmps84;go_wp2;go_loop [5] (fun i=>i=.int .i64 0) (fun _=>0);case atStart=>rfl
 case round =>subst hrel;go_wp2;go_ret;exact⟨-1,rfl,by rw[nB];rfl,c.out⟩
theorem pq (a0:Option Addr)(n0 c0:Nat)(a1:Option Addr)(n1 c1:Nat)(f0:Nat->Source)(t:ByteArray)(w:World)(hn0:(n0:Int)<=1048576)(c:SlSource w a0 n0 f0):Calls Tryz.prog 84 #[.agg #[.slice a0 n0 c0,.slice a1 n1 c1],.string t] w fun e d=>∃ r:Int,e=.returned (.int .i64 r)/\decide (0<=r)=bS (nm0 f0) n0 t/\Below w.heap.size w d:=by
 rcases c with rfl | ⟨b,off,rfl,f⟩
 ·exact pp a0 c0 a1 n1 c1 (nm0 f0) t w
 ·exact pn b off n0 c0 a1 n1 c1 f0 t w hn0 f
def dfS:Source:=⟨⟨#[]⟩,⟨#[]⟩⟩
def dfT:Target:=⟨⟨#[]⟩,0,fun _=>⟨0,⟨#[]⟩,0⟩⟩
def dfR:TR:=(dfT,0,0)
def aO (L:List Source)(i:Nat):Source:=L.getD i dfS
def ba (L:List Target)(i:Nat):Target:=L.getD i dfT
theorem iL {w:World}{b c:Nat}{a:Option Addr}{L:List Source}(h:w.ownsRow b 100 2 (.slice a L.length c) L.length (L.flatMap be)):SlSource w a L.length (aO L):=by
 by_cases hn:L.length=0
 ·exact .inl hn
 ·obtain⟨g,c',e⟩:=dA h (by omega)
  simp at e;obtain⟨rfl,rfl⟩:=e;refine .inr ⟨g,0,rfl,(cu h).2,fun i hi=>?_⟩;have d:L[i]?=some (aO L i):=by rw[aO,List.getD_eq_getElem?_getD,gq hi];rfl
  refine⟨?_,?_⟩
  ·have:=(bA h (j:=i*2) (u:=.string (aO L i).name) (by have:=bZ be 2 (fun _=>rfl) L i 0 (by omega) _ d;simpa[be] using this)).1
   rwa[show 0+i*2=i*2 by omega]
  ·have:=(bA h (j:=i*2+1) (u:=.string (aO L i).text) (by have:=bZ be 2 (fun _=>rfl) L i 1 (by omega) _ d;simpa[be] using this)).1
   rwa[show 0+i*2+1=i*2+1 by omega]
theorem ki {R:List TR}{i:Nat}(hi:i<R.length):∃ r,R[i]?=some r/\r∈R:=⟨R[i],gq hi,gz hi⟩
theorem lv {w:World}{b c:Nat}{a:Option Addr}{R:List TR}(h:TRow w b (.slice a R.length c) R):SlTarget w a R.length (ba (R.map (·.1))):=by
 by_cases hn:R.length=0
 ·exact .inl hn
 ·obtain⟨g,c',e⟩:=dA h.own (by omega)
  simp at e;obtain⟨rfl,rfl⟩:=e;refine .inr ⟨g,0,rfl,(cu h.own).2,fun i hi=>?_⟩;obtain⟨r,d,f⟩:=ki hi;have l:ba (R.map (·.1)) i=r.1:=by rw[ba,List.getD_eq_getElem?_getD,List.getElem?_map,d];rfl
  rw[l];obtain⟨k,_,_,_⟩:=h.act r f;refine⟨?_,some ⟨r.2.1,0,none⟩,r.2.2,?_,k.sl⟩
  ·have:=(bA h.own (j:=i*2) (u:=.string r.1.name) (by have:=bZ aU 2 (fun _=>rfl) R i 0 (by omega) _ d;simpa[aU] using this)).1
   rwa[show 0+i*2=i*2 by omega]
  ·have:=(bA h.own (j:=i*2+1) (u:=.slice (some ⟨r.2.1,0,none⟩) r.1.actN r.2.2) (by have:=bZ aU 2 (fun _=>rfl) R i 1 (by omega) _ d;simpa[aU] using this)).1
   rwa[show 0+i*2+1=i*2+1 by omega]
theorem nN {w:World}{d size n g cap:Nat}{e:TypeId}{b:List Value}(h:w.ownsRow d e size (.slice (some ⟨g,0,none⟩) n cap) n b):∃ F,Cells w g 0 (n*size) F/\∀ j,j<n*size->b[j]?=some (F j):=by
 refine⟨fun j=>b[j]?.getD undef,⟨(cu h).2,fun j f=>?_⟩,fun j f=>?_⟩
 ·have c:j<b.length:=by rw[h.1];exact f
  have:=bA h (j:=j) (u:=b[j]) (by rw[gq c]);show w.cell? ⟨g,0+j,none⟩=some (b[j]?.getD undef)/\_;rw[Nat.zero_add,gq c];exact this
 ·have c:j<b.length:=by rw[h.1];exact f
  show b[j]?=some (b[j]?.getD undef);rw[gq c];rfl
theorem sY {w:World}{l c0 c1:Nat}{a0 a1:Option Addr}{L:List Source}{R:List TR}(n:w.ownsRow l 100 2 (.slice a0 L.length c0) L.length (L.flatMap be))(hR:TRow w l (.slice a1 R.length c1) R)(B:∀ r∈R,r.1.actN<=1048576):SCells w a0 L.length a1 R.length (fun k=>l<=k/\k<w.heap.size):=by
 refine⟨?_,?_⟩
 ·by_cases hn:L.length=0
  ·exact .inl hn
  ·obtain⟨g,z,e⟩:=dA n (by omega)
   simp at e;obtain⟨rfl,rfl⟩:=e;obtain⟨F,hF,_⟩:=nN n;exact .inr ⟨g,rfl,cu n,F,hF⟩
 ·by_cases hn:R.length=0
  ·exact .inl hn
  ·obtain⟨g,z,e⟩:=dA hR.own (by omega)
   simp at e;obtain⟨rfl,rfl⟩:=e;obtain⟨F,hF,A⟩:=nN hR.own;have f:∀ i,i<R.length->∃ r,R[i]?=some r/\r∈R:=fun i hi=>ki hi;have b:∀ i r,R[i]?=some r->(R.getD i dfR)=r:=fun i r h=>by rw[List.getD_eq_getElem?_getD,h];rfl
   refine .inr ⟨g,fun i=>(R.getD i dfR).2.1,fun i=>(R.getD i dfR).1.actN,rfl,⟨⟨F,hF,fun i hi=>?_⟩,fun i hi=>?_,fun i hi=>?_,fun i j hi o y=>?_⟩,cu hR.own,fun i hi=>?_,fun i hi=>?_,fun S t hn0=>⟨?_,fun i hi=>?_⟩⟩
   ·obtain⟨r,c,d⟩:=f i hi
    have m:=bZ aU 2 (fun _=>rfl) R i 1 (by omega) _ c;have C:=A (i*2+1) (by omega);rw[C] at m;simp[aU] at m;exact⟨r.2.2,by rw[m,b i r c]⟩
   ·obtain⟨r,c,d⟩:=f i hi
    obtain⟨_,⟨G,D⟩,_,_⟩:=hR.act r d;try dsimp only
    rw[b i r c];exact⟨G,D⟩
   ·obtain⟨r,c,d⟩:=f i hi
    obtain⟨_,_,p,_⟩:=hR.act r d;try dsimp only
    rw[b i r c];exact dU p (ei hR.own) (by decide)
   ·obtain⟨r,c,_⟩:=f i hi
    obtain⟨q,s,_⟩:=f j o;try dsimp only
    rw[b i r c,b j q s];have u:=List.pairwise_iff_getElem.1 hR.up;have x:R[i]=r:=by rw[gq hi] at c;simpa using c
    have eq:R[j]=q:=by rw[gq o] at s;simpa using s
    rcases Nat.lt_or_gt_of_ne y with h | h
    ·have:=u i j hi o h
     rw[x,eq] at this;omega
    ·have:=u j i o hi h
     rw[x,eq] at this;omega
   ·obtain⟨r,c,d⟩:=f i hi
    obtain⟨m,_,_,E⟩:=hR.act r d;try dsimp only
    rw[b i r c];exact⟨E,m.1⟩
   ·obtain⟨r,c,d⟩:=f i hi
    try dsimp only
    rw[b i r c];exact B r d
   ·subst t
    exact dU (ei hR.own) (ei n) (by decide)
   ·subst t
    obtain⟨r,c,d⟩:=f i hi;obtain⟨_,_,p,_⟩:=hR.act r d;try dsimp only
    rw[b i r c];exact dU p (ei n) (by decide)
theorem uo {w d:World}{b size n:Nat}{e:TypeId}{v:Value}{f:List Value}{P:Nat->Prop}(h:w.ownsRow b e size v n f)(o:Touch P w d)(j:∀ k,P k->k<b):d.ownsRow b e size v n f:=by
 refine⟨h.1,?_⟩;rcases h.2 with h | ⟨g,cap,i,l,m,c,r⟩
 ·exact .inl h
 ·refine .inr ⟨g,cap,i,l,m,(o.block g ?_ (fun p=>by have:=j g p;omega)).trans c,r⟩
  exact(Array.getElem?_eq_some_iff.1 c).1
theorem TRow.touch {w f:World}{b:Nat}{v:Value}{R:List TR}{P:Nat->Prop}(h:TRow w b v R)(c:Touch P w f)(d:∀ k,P k->k<b):TRow f b v R:=by refine⟨uo h.own c d,fun r l=>?_,h.up⟩;obtain⟨g,⟨F,m⟩,i,n⟩:=h.act r l;have e:=c.block r.2.1 g.1 (fun j=>by have:=d _ j;omega);exact⟨g.block c.size e,⟨F,m.block c.size e⟩,i.block e,n⟩
structure Held (w:World)(base N:Nat)(v0 v1:Value)(L:List Source)(R:List TR):Prop where
 own:w.ownsRow base 100 2 v0 L.length (L.flatMap be)
 row:TRow w base v1 R
 u0:∀ k,v0.ownBlock=some k->k<N
 u1:∀ k,v1.ownBlock=some k->k<N
 u2:∀ r∈R,r.2.1<N
theorem Held.below {w d:World}{b N:Nat}{c f:Value}{L:List Source}{R:List TR}(h:Held w b N c f L R)(hb:Below w.heap.size w d):Held d b N c f L R :=
 ⟨own_below h.own hb ly,h.row.below hb ly,h.u0,h.u1,h.u2⟩
theorem rP {w f:World}{b size n:Nat}{e:TypeId}{v:Value}{i:List Value}{P:Nat->Prop}(h:w.ownsRow b e size v n i)(o:Touch P w f)(l:∀ k,v.ownBlock=some k->¬ P k):f.ownsRow b e size v n i:=by
 refine⟨h.1,?_⟩;rcases h.2 with h | ⟨g,cap,j,c,m,d,r⟩
 ·exact .inl h
 ·refine .inr ⟨g,cap,j,c,m,(o.block g ?_ (l g (by rw[c];rfl))).trans d,r⟩
  exact(Array.getElem?_eq_some_iff.1 d).1
theorem Held.touch {w n:World}{b N:Nat}{l o:Value}{L:List Source}{R:List TR}{P:Nat->Prop}(h:Held w b N l o L R)(c:Touch P w n)(i:∀ k,P k->k<b∨N<=k):Held n b N l o L R:=by
 refine⟨rP h.own c fun k f d=>?_,⟨rP h.row.own c fun k f d=>?_,fun r m=>?_,h.row.up⟩,h.u0,h.u1,h.u2⟩
 ·have g:=(h.own.lt k f).1
  have j:=h.u0 k f;have:=i k d;omega
 ·have g:=(h.row.own.lt k f).1
  have j:=h.u1 k f;have:=i k d;omega
 ·obtain⟨g,⟨F,j⟩,p,q⟩:=h.row.act r m
  have e:=c.block r.2.1 g.1 (fun d=>by have:=i _ d;have:=h.u2 r m;omega);exact⟨g.block c.size e,⟨F,j.block c.size e⟩,p.block e,q⟩
theorem Held.src {w:World}{b N n c:Nat}{a:Option Addr}{d:Value}{L:List Source}{R:List TR}(h:Held w b N (.slice a n c) d L R)(hn:n=L.length):SlSource w a n (aO L):=by subst hn;exact iL h.own
theorem Held.tgt {w:World}{b N n c:Nat}{a:Option Addr}{f:Value}{L:List Source}{d:List Target}{R:List TR}(h:Held w b N f (.slice a n c) L R)(hn:n=d.length)(hM:R.map (·.1)=d):SlTarget w a n (ba d):=by
 subst hM;have e:n=R.length:=by rw[hn];simp
 subst e;exact lv h.row
theorem Held.cells {w:World}{base N n0 c0 n1 c1:Nat}{a0 a1:Option Addr}{L:List Source}{R:List TR}(h:Held w base N (.slice a0 n0 c0) (.slice a1 n1 c1) L R)(q:n0=L.length)(x:n1=R.length)(y:∀ r∈R,r.1.actN<=1048576):SCells w a0 n0 a1 n1 (fun k=>base<=k/\k<N):=by
 subst q x;obtain⟨s,t⟩:=sY h.own h.row y;refine⟨?_,?_⟩
 ·rcases s with s | ⟨S,rfl,d,r⟩
  ·exact .inl s
  ·exact .inr ⟨S,rfl,⟨d.1,h.u0 S rfl⟩,r⟩
 ·rcases t with t | ⟨T,B,m,rfl,n,d,A,p,r⟩
  ·exact .inl t
  ·refine .inr ⟨T,B,m,rfl,n,⟨d.1,h.u1 T rfl⟩,fun i hi=>⟨(A i hi).1,?_⟩,p,r⟩
   obtain⟨F,hF,z⟩:=n.row;obtain⟨cap,c⟩:=z i hi;obtain⟨b,l,g⟩:=ki (R:=R) (i:=i) hi;have C:=bZ aU 2 (fun _=>rfl) R i 1 (by omega) _ l;have o:=(bA h.row.own (j:=i*2+1) (u:=.slice (some ⟨b.2.1,0,none⟩) b.1.actN b.2.2) (by simpa[aU] using C)).1;have f:=(hF.at (i*2+1) (i*2+1) (by omega) (by omega)).1;rw[o,c] at f;simp at f;rw[<-f.1];exact h.u2 b g
theorem fc (a0:Option Addr)(n0 c0:Nat)(f0:Nat->Source)(a1:Option Addr)(n1 c1:Nat)(f1:Nat->Target)(t:ByteArray)(w:World)(hn0:(n0:Int)<=1048576)(hn1:(n1:Int)<=1048576)(I:SlSource w a0 n0 f0)(J:SlTarget w a1 n1 f1)(C:∀ i,i<n1->bD (f1 i)):Calls Tryz.prog 62 #[.agg #[.slice a0 n0 c0,.slice a1 n1 c1],.string t] w fun e L=>∃ n r R,e=.returned (.agg #[n,r])/\L.ownsRow (w.heap.size+3) 100 2 n (bw f0 t n0).length ((bw f0 t n0).flatMap be)/\TRow L (w.heap.size+3) r R/\R.map (·.1)=ce f1 t n1/\Below w.heap.size w L:=by
 have V0:=ae I;have V1:=ae J;have HF:=ae C;clear I J C;obtain⟨bt,hi,la,aq,n8⟩:=info_parts iP;obtain⟨U,hj,ex,qr,n9⟩:=info_parts ft;have V:=ae ((((q9 w).alloc ly (.cells #[.slice a0 n0 c0,.slice a1 n1 c1] 26)).alloc (by simp) (.cells #[.slice none 0 0,.slice none 0 0] 26)).alloc (by simp;omega) (.cells #[.slice none 0 0,.slice none 0 0] 26));have X0:=ae (un w (.slice a0 n0 c0) (.slice a1 n1 c1) 26);go_enter Tryz.func62,Tryz.ntmps62;go_wp2;generalize ((w.alloc (.cells #[.slice a0 n0 c0,.slice a1 n1 c1] 26)).alloc (.cells #[.slice none 0 0,.slice none 0 0] 26)).alloc (.cells #[.slice none 0 0,.slice none 0 0] 26)=W at V X0 ⊢;go_loopw [6] (fun i wr=>∃ (k:Nat) (n:Value),k<=n0/\i=.int .i64 k/\Hid (Boxes wr w.heap.size (.slice a0 n0 c0) (.slice a1 n1 c1) n (.slice none 0 0))/\Hid (wr.ownsRow (w.heap.size+3) 100 2 n (bw f0 t k).length ((bw f0 t k).flatMap be))/\Hid (Below w.heap.size w wr)) (fun i _=>n0 - (intOf i).toNat);case atStart=>exact⟨0,_,by omega,rfl,X0.out,World.ownsRow_nil _ _ _ _,V.out⟩
 case round =>
  obtain⟨k,n,hk,rfl,d,z,m⟩:=hrel;have P:=d.out.lt;by_cases o:k<n0
  ·obtain⟨b,off,rfl,q⟩:=V0.out.resolve_left (by omega)
   obtain⟨N,M⟩:=(q.2 k o).below m.out q.1;clear q;have hll:=jQ f0 t k;have K:=d.out.a0;cases hq:((f0 k).name.toList == t.toList) with
   | true =>have s:=ae hq;go_wp2;exact⟨⟨k+1,n,by omega,by go_num,d.out,by show World.ownsRow _ _ _ _ _ _ _;rw[sU s.out];exact z.out,m.out⟩,by simp[intOf];omega⟩
   | false =>
    have s:=ae hq;obtain⟨x0,y0⟩:=d.out.o0;have G:=ae ((Below.refl (w.heap.size+3) wr).drew.alloc (by simp;omega) (.cells #[.string (f0 k).name,.string (f0 k).text] 100));go_wp2_with fail
    go_region_law (first
     | (refine cW rfl (.tmp 25) (.tmp 31) 23 rfl (w.heap.size+3) 100 bt (.agg #[.string ⟨#[]⟩,.string ⟨#[]⟩]) 2 32 Tryz.underlying23 hi la aq n8 rfl (by decide) n (bw f0 t k).length ((bw f0 t k).flatMap be) (by simp[Act.eval]) (z.out.drew.alloc _) ⟨wr.heap.size,0,none⟩ 1 1 (be (f0 k)) (by simp[Act.eval]) rfl (da wr.drew _ _ _) (by simp[be,Value.oneCell']) (by unfold maxLen;omega) (by omega) (by simp<;>omega) ?_;intro v' w2 l f y;obtain⟨gs,cs,rfl⟩:=dA l (by omega);have O2:=ae l;have O:=ae (bg G.out f (by simp<;>omega) (fun j e=>(z.out.lt j e).1));obtain⟨x2,y2⟩:=(d.out.below O.out ly).o0;clear l f y))
    all_goals
     clear x0 y0 K;go_wp2;exact⟨⟨k+1,_,by omega,by go_num,(d.out.below O.out ly).set0 _,by show World.ownsRow _ _ _ _ _ _ _;rw[sV s.out,List.length_append,List.flatMap_append];simpa using aD O2.out (by omega) _,(m.out.trans (O.out.mono (by omega))).setCell (by simp;omega) _⟩,by simp[intOf];omega⟩
  ·have e:n0=k:=by omega
   subst e;have K:=d.out.a0;have D:=d.out.a1;go_wp2;clear K D o hk;generalize wr=W1 at d z m P ⊢;go_loopw [7] (fun i wr=>∃ (k:Nat) (r:Value) (R:List TR),k<=n1/\i=.int .i64 k/\Hid (Boxes wr w.heap.size (.slice a0 n0 c0) (.slice a1 n1 c1) n r)/\Hid (wr.ownsRow (w.heap.size+3) 100 2 n (bw f0 t n0).length ((bw f0 t n0).flatMap be))/\Hid (TRow wr (w.heap.size+3) r R)/\Hid (R.map (·.1)=ce f1 t k)/\Hid (Below w.heap.size w wr)) (fun i _=>n1 - (intOf i).toNat);case atStart=>exact⟨0,_,[],by omega,rfl,d.out,z.out,cL _ _,rfl,m.out⟩
   case round =>
    clear d z m;obtain⟨k,r,R,hk,rfl,d,A,u,E,m⟩:=hrel;have hlt4:=d.out.lt;by_cases o:k<n1
    ·obtain⟨b,off,rfl,q⟩:=V1.out.resolve_left (by omega)
     obtain⟨N,ka,kc,M,Z⟩:=(q.2 k o).below m.out ly q.1;have HX:=ae Z;have X:=q.1;clear q Z;have hRl:R.length<=1048576:=by have h1:=congrArg List.length E.out;have h2:=jR f1 t k;simp at h1;omega
     have Y:((f1 k).actN:Int)<=1048576:=by have:=HF.out k o;unfold bD at this;omega
     have D:=d.out.a1;have hbh:¬ b=w.heap.size+1+1:=by omega
     have hbh2:¬ w.heap.size+1+1=b:=by omega
     have hbw:b<wr.heap.size:=lj X m.out.size;cases hq:((f1 k).name.toList == t.toList) with
     | true =>have s:=ae hq;go_wp2;exact⟨⟨k+1,r,R,by omega,by go_num,d.out,A.out,u.out,by show _=ce f1 t (k+1);rw[sW s.out];exact E.out,m.out⟩,by simp[intOf];omega⟩
     | false =>
      have s:=ae hq;obtain⟨x1,y1⟩:=d.out.o1;have G:=ae (q9 wr).drew;go_wp2_with fail
      go_region_law (first
       | (go_simp;go_at_call 80;refine(gn ka (f1 k).actN kc (f1 k).act _ Y (HX.out.below G.out ly)).mono ?_;rintro e B ⟨g,c,rfl,T,hB⟩;have h:=ae (G.out.trans (hB.mono (by simp)));have fd:=(h.out.cell (p:=⟨b,off+k*2,none⟩) hbw).trans N;have mv:=(h.out.cell (p:=⟨b,off+k*2+1,none⟩) hbw).trans M;have H:=(cu T).1;have OC:=ae (aB T (base':=w.heap.size+3) (by simp;omega));have Q:wr.heap.size<=g:=(by simpa using H);obtain⟨xC,yC⟩:=(d.out.below h.out (by omega)).o1;have kC:=(d.out.below h.out (by omega)).a1;have hzC:w.heap.size+1+1<B.heap.size:=(by have:=(d.out.below h.out (by omega)).lt;omega);have hyC:w.heap.size<B.heap.size:=(by omega);have hxC:b<B.heap.size:=(by have:=h.out.size;omega);clear hB T H)
       | (refine cW rfl (.tmp 50) (.tmp 65) 24 rfl (w.heap.size+3) 104 U (.agg #[.string ⟨#[]⟩,.slice none 0 0]) 2 40 Tryz.underlying24 hj ex qr n9 rfl (by decide) r R.length (R.flatMap aU) (by simp[Act.eval]) ((u.out.below h.out ly).own.alloc _) ⟨B.heap.size,0,none⟩ 1 1 (aU (f1 k,g,c)) (by simp[Act.eval]) rfl (da B _ _ _) (by simp[aU,Value.oneCell']) (by unfold maxLen;omega) (by omega) (by first | (simp;done) | (simp;omega) | (have:=h.out.size;simp;omega)) ?_;intro v' w2 l f y;obtain⟨gs,cs,rfl⟩:=dA l (by omega);have T2:=ae (u.out.more (x:=f1 k) (g:=g) (c:=c) (h.out.alloc h.out.size _) Q (by omega) (OC.out.alloc _) l f);have S:=ae (bg ((h.out.mono (show w.heap.size+3<=wr.heap.size by omega)).alloc (by have:=h.out.size;omega) _) f (by have:=h.out.size;simp;omega) (fun j e=>(u.out.own.lt j e).1));obtain⟨x2,y2⟩:=(d.out.below S.out ly).o1;have ld:=ae ((own_below A.out (h.out.alloc h.out.size _) ly).kept f (um (own_below A.out (h.out.alloc h.out.size (.cells #[.string (f1 k).name,.slice (some ⟨g,0,none⟩) (f1 k).actN c] 104)) ly) ((u.out.below h.out ly).own.alloc _) (by decide)));clear l f y))
      all_goals
       clear fd mv xC yC x1 y1 D kC N M;go_wp2;exact⟨⟨k+1,_,R++[(f1 k,g,c)],by omega,by go_num,(d.out.below S.out ly).set1 _,aD ld.out (by omega) _,T2.out.set (by omega) _,by show _=ce f1 t (k+1);rw[sX s.out,List.map_append,E.out];rfl,(m.out.trans (S.out.mono (by omega))).setCell (by simp;omega) _⟩,by simp[intOf];omega⟩
    ·have e:n1=k:=by omega
     subst e;have D:=d.out.a1;obtain⟨sa,sc,rfl⟩:=aL A.out;obtain⟨ta,tc,rfl⟩:=aL u.out.own;obtain⟨r0,q0⟩:=d.out.r0;obtain⟨r1,q1⟩:=d.out.r1;obtain⟨m0,_⟩:=d.out.o0;obtain⟨m1,_⟩:=d.out.o1;go_wp2;exact bp (v:=.agg #[.slice sa _ sc,.slice ta _ tc]) (by simp[results,Tryz.results62,go_sem,r0,r1]) rfl ⟨_,_,R,rfl,aD (aD A.out (by omega) _) (by omega) _,(u.out.set (by omega) _).set (by omega) _,E.out,(m.out.setCell (by simp) _).setCell (by simp) _⟩
theorem mM:∀ a b:List UInt8,decide (0<Lib.compareBytes a b)=Op.bytesLess b a
 | [],[]=>by simp[Lib.compareBytes,Op.bytesLess]
 | [],_ :: _=>by simp[Lib.compareBytes,Op.bytesLess]
 | _ :: _,[]=>by simp[Lib.compareBytes,Op.bytesLess]
 | a :: x,b :: y=>by
  have g:=mM x y;rw[Lib.compareBytes,Op.bytesLess,<-g];by_cases c:a<b
  ·have d:¬ b=a:=fun e=>by subst e;exact(UInt8.lt_irrefl _ c)
   have i:¬ b<a:=fun h=>UInt8.lt_irrefl _ (UInt8.lt_trans c h);simp[c,d,i]
  ·rw[if_neg c]
   by_cases f:b<a
   ·simp[f]
   ·have d:a=b:=UInt8.le_antisymm (UInt8.not_lt.1 f) (UInt8.not_lt.1 c)
    subst d;simp[c]
theorem fY {a b:ByteArray}(h:aH b a=true):aH a b=false/\(a.toList == b.toList)=false:=by have d:=mL a.data.toList b.data.toList;have f:=lu a.data.toList b.data.toList;have c:=mM a.data.toList b.data.toList;simp only[aH,ByteArray.toList_eq] at h ⊢;rw[<-d,<-f];rw[<-c] at h;simp at h ⊢;omega
theorem gS {a b:ByteArray}(h:aH b a=false):aH a b=true∨(aH a b=false/\(a.toList == b.toList)=true):=by have d:=mL a.data.toList b.data.toList;have f:=lu a.data.toList b.data.toList;have c:=mM a.data.toList b.data.toList;simp only[aH,ByteArray.toList_eq] at h ⊢;rw[<-d,<-f];rw[<-c] at h;simp only[decide_eq_false_iff_not,decide_eq_true_eq] at h ⊢;omega
structure yM (w:World)(b:Nat)(v0 v1:Value):Prop where
 lt:b<w.heap.size
 c0:w.cell? ⟨b,0,none⟩=some v0
 c1:w.cell? ⟨b,1,none⟩=some v1
 z0:w.frozen? ⟨b,0,none⟩=false
 z1:w.frozen? ⟨b,1,none⟩=false
theorem pr (w:World)(c b:Value)(t:TypeId):yM (w.alloc (.cells #[c,b] t)) w.heap.size c b:=⟨by simp,by simp,by simp,by simp,by simp⟩
def dl (L:List Source)(t:ByteArray):Nat->Bool
 | 0=>false
 | k+1=>dl L t k || aH t (aO L k).name
def bE (L:List Source)(x:Source)(t:ByteArray):Nat->List Source
 | 0=>[]
 | k+1=>if dl L t k=false/\aH t (aO L k).name=true then bE L x t k++[x]++[aO L k] else bE L x t k++[aO L k]
def gu (L:List Source)(x:Source)(t:ByteArray):List Source:=if dl L t L.length=true then bE L x t L.length else bE L x t L.length++[x]
theorem uq (L:List Source)(x:Source)(t:ByteArray)(k:Nat):(bE L x t k).length<=k+1/\(dl L t k=false->(bE L x t k).length=k):=by
 induction k with
 | zero=>simp[bE]
 | succ j c =>
  simp only[bE,dl];cases hd:dl L t j with
  | false =>
   have b:=c.2 hd;cases hl:aH t (aO L j).name with
   | true=>simp[b]
   | false=>simp[b]
  | true =>have b:=c.1;simp;omega
def jS (n0:Nat)(f0:Nat->Source)(n1:Nat)(f1:Nat->Target)(t tx:ByteArray):Int :=
 if bi n0 f0 n1 f1≠0 then 1 else if aw t=false∨2000<(tx.size:Int) then 2 else if 200<=(bw f0 t n0).length+(ce f1 t n1).length then 3 else 0
def fM (n0:Nat)(f0:Nat->Source)(n1:Nat)(f1:Nat->Target)(t tx:ByteArray):List Source:=if jS n0 f0 n1 f1 t tx=0 then gu (bw f0 t n0) ⟨t,tx⟩ t else []
def gT (n0:Nat)(f0:Nat->Source)(n1:Nat)(f1:Nat->Target)(t tx:ByteArray):List Target:=if jS n0 f0 n1 f1 t tx=0 then ce f1 t n1 else []
theorem dn {L:List Source}{i:Nat}(h:i<L.length):aO L i=L[i]:=by rw[aO,List.getD_eq_getElem?_getD,gq h];rfl
theorem jf {g:Nat->ByteArray}{n:Nat}(h:∀ i j,i<j->j<n->aH (g i) (g j)=true):bP g n=true:=by
 induction n with
 | zero=>rfl
 | succ k c =>
  have d:=c (fun i j b hj=>h i j b (by omega));cases k with
  | zero=>rfl
  | succ m =>show(bP g (m+1) && _)=true;rw[d];exact h m (m+1) (by omega) (by omega)
theorem nO {f:Nat->Source}{n:Nat}{t:ByteArray}:∀ y∈bw f t n,(y.name.toList == t.toList)=false:=by intro y b;simpa using(List.mem_filter.1 b).2
theorem jg {L:List Source}{x:Source}{t:ByteArray}{i:Nat}(hi:i<=L.length)(f:∀ m,m<i->aH (nm0 (aO L) m) t=true):∀ k,k<=i->dl L t k=false/\bE L x t k=L.take k
 | 0,_=>⟨rfl,rfl⟩
 | k+1,hk=>by
  obtain⟨b,d⟩:=jg (x:=x) hi f k (by omega);have c:aH t (aO L k).name=false:=(fY (f k (by omega))).1;refine⟨?_,?_⟩
  ·show(dl L t k || aH t (aO L k).name)=false
   rw[b,c];rfl
  ·show(if _ then _ else _)=_
   rw[if_neg (by rw[c];simp),d,dn (by omega)];exact List.take_append_getElem (by omega)
theorem lX {L:List Source}{x:Source}{t:ByteArray}{i:Nat}(hi:i<=L.length)(j:∀ m,m<i->aH (nm0 (aO L) m) t=true)(k:∀ m,i<=m->m<L.length->aH (nm0 (aO L) m) t=false)(g:∀ y∈L,(y.name.toList == t.toList)=false):∀ d,i+d+1<=L.length->dl L t (i+d+1)=true/\bE L x t (i+d+1)=L.take i++x :: (L.drop i).take (d+1)
 | 0,hd=>by
  obtain⟨a1,f⟩:=jg (x:=x) hi j i ly;have b:i<L.length:=by omega
  have l:aH t (aO L i).name=true:=by
   cases h:aH t (aO L i).name with
   | true=>rfl
   | false =>
    rcases gS h with c | ⟨_,c⟩
    ·have:=k i ly b
     rw[show nm0 (aO L) i=(aO L i).name from rfl,c] at this;cases this
    ·rw[dn b,g _ (gz b)] at c
     cases c
  refine⟨?_,?_⟩
  ·show(dl L t i || aH t (aO L i).name)=true
   rw[l];simp
  ·show(if _ then _ else _)=_
   have e:(L.drop i).take (0+1)=[L[i]]:=by rw[List.drop_eq_getElem_cons b];rfl
   rw[if_pos ⟨a1,l⟩,f,dn b,e];simp
 | d+1,hd=>by
  obtain⟨a1,f⟩:=lX (x:=x) hi j k g d (by omega);refine⟨?_,?_⟩
  ·show(dl L t (i+d+1) || _)=true
   rw[a1];rfl
  ·show(if _ then _ else _)=_
   rw[if_neg (by rw[show i+(d+1)=i+d+1 from rfl,a1];simp)];show bE L x t (i+d+1)++[aO L (i+d+1)]=_;have n:d+1<(L.drop i).length:=by rw[List.length_drop];omega
   rw[f,dn (by omega),<-List.take_append_getElem n,List.getElem_drop];simp[Nat.add_assoc]
theorem xR {L:List Source}{x:Source}{t:ByteArray}{i:Nat}(hi:i<=L.length)(c:∀ m,m<i->aH (nm0 (aO L) m) t=true)(j:∀ m,i<=m->m<L.length->aH (nm0 (aO L) m) t=false)(f:∀ y∈L,(y.name.toList == t.toList)=false):gu L x t=L.take i++x :: L.drop i:=by
 by_cases h:i=L.length
 ·subst h
  obtain⟨a1,b⟩:=jg (x:=x) hi c L.length ly;unfold gu;rw[if_neg (by rw[a1];simp),b];simp
 ·obtain⟨d,g⟩:∃ d,L.length=i+d+1:=⟨L.length - i - 1,by omega⟩
  obtain⟨a1,b⟩:=lX (x:=x) hi c j f d (by omega);unfold gu;have e:(L.drop i).take (d+1)=L.drop i:=List.take_of_length_le (by rw[List.length_drop];omega);rw[g,if_pos a1,b,e]
def ip (n0:Nat)(f0:Nat->Source)(n1:Nat)(f1:Nat->Target)(t:ByteArray)(b:Bool):Int :=
 if bi n0 f0 n1 f1≠0 then 1 else if aw t=false∨b=false then 2 else if 200<=(bw f0 t n0).length+(ce f1 t n1).length then 3 else 0
def dB (g:Nat->ByteArray)(t:ByteArray):Nat->Bool
 | 0=>false
 | k+1=>dB g t k || aH t (g k)
def dW {b:Type}(g:Nat->ByteArray)(F:Nat->b)(x:b)(t:ByteArray):Nat->List b
 | 0=>[]
 | k+1=>if dB g t k=false/\aH t (g k)=true then dW g F x t k++[x]++[F k] else dW g F x t k++[F k]
def iE {b:Type}(g:Nat->ByteArray)(F:Nat->b)(x:b)(t:ByteArray)(n:Nat):List b:=if dB g t n=true then dW g F x t n else dW g F x t n++[x]
theorem vZ {d:Type}(g:Nat->ByteArray)(F:Nat->d)(x:d)(t:ByteArray)(k:Nat):(dW g F x t k).length<=k+1/\(dB g t k=false->(dW g F x t k).length=k):=by
 induction k with
 | zero=>simp[dW]
 | succ j c =>
  simp only[dW,dB];cases hd:dB g t j with
  | false =>
   have b:=c.2 hd;cases hl:aH t (g j) with
   | true=>simp[b]
   | false=>simp[b]
  | true =>have b:=c.1;simp;omega
theorem pu {b c:Type}(p:b->c)(g:Nat->ByteArray)(F:Nat->b)(x:b)(t:ByteArray)(k:Nat):(dW g F x t k).map p=dW g (fun i=>p (F i)) (p x) t k:=by
 induction k with
 | zero=>rfl
 | succ j d =>simp only[dW];split<;>simp[d]
theorem wj {b c:Type}(p:b->c)(g:Nat->ByteArray)(F:Nat->b)(x:b)(t:ByteArray)(n:Nat):(iE g F x t n).map p=iE g (fun i=>p (F i)) (p x) t n:=by
 unfold iE;split
 ·exact pu p g F x t n
 ·rw[List.map_append,pu];rfl
theorem iF {f:Type}{g:Nat->ByteArray}{L:List f}{d x:f}{t:ByteArray}{i:Nat}(hi:i<=L.length)(l:∀ m,m<i->aH (g m) t=true):∀ k,k<=i->dB g t k=false/\dW g (fun j=>L.getD j d) x t k=L.take k
 | 0,_=>⟨rfl,rfl⟩
 | k+1,hk=>by
  obtain⟨b,h⟩:=iF (d:=d) (x:=x) hi l k (by omega);have c:aH t (g k)=false:=(fY (l k (by omega))).1;have e:L.getD k d=L[k]'(by omega):=by rw[List.getD_eq_getElem?_getD,gq (by omega)];rfl
  refine⟨?_,?_⟩
  ·show(dB g t k || aH t (g k))=false
   rw[b,c];rfl
  ·show(if _ then _ else _)=_
   rw[if_neg (by rw[c];simp),h];show L.take k++[L.getD k d]=_;rw[e];exact List.take_append_getElem (by omega)
theorem kI {o:Type}{g:Nat->ByteArray}{L:List o}{d x:o}{t:ByteArray}{i:Nat}(hi:i<=L.length)(n:∀ m,m<i->aH (g m) t=true)(p:∀ m,i<=m->m<L.length->aH (g m) t=false)(l:∀ m,m<L.length->((g m).toList == t.toList)=false):∀ e,i+e+1<=L.length->dB g t (i+e+1)=true/\dW g (fun j=>L.getD j d) x t (i+e+1)=L.take i++x :: (L.drop i).take (e+1)
 | 0,hd=>by
  obtain⟨a1,f⟩:=iF (d:=d) (x:=x) hi n i ly;have b:i<L.length:=by omega
  have q:aH t (g i)=true:=by
   cases h:aH t (g i) with
   | true=>rfl
   | false =>
    rcases gS h with c | ⟨_,c⟩
    ·have:=p i ly b
     rw[c] at this;cases this
    ·rw[l _ b] at c
     cases c
  have e:L.getD i d=L[i]:=by rw[List.getD_eq_getElem?_getD,gq b];rfl
  refine⟨?_,?_⟩
  ·show(dB g t i || aH t (g i))=true
   rw[q];simp
  ·show(if _ then _ else _)=_
   have r:(L.drop i).take (0+1)=[L[i]]:=by rw[List.drop_eq_getElem_cons b];rfl
   rw[if_pos ⟨a1,q⟩,f];show L.take i++[x]++[L.getD i d]=_;rw[e,r];simp
 | k+1,hd=>by
  obtain⟨a1,f⟩:=kI (d:=d) (x:=x) hi n p l k (by omega);have s:k+1<(L.drop i).length:=by rw[List.length_drop];omega
  have e:L.getD (i+k+1) d=L[i+k+1]'(by omega):=by rw[List.getD_eq_getElem?_getD,gq (by omega)];rfl
  refine⟨?_,?_⟩
  ·show(dB g t (i+k+1) || _)=true
   rw[a1];rfl
  ·show(if _ then _ else _)=_
   rw[if_neg (by rw[show i+(k+1)=i+k+1 from rfl,a1];simp)];show dW g (fun j=>L.getD j d) x t (i+k+1)++[L.getD (i+k+1) d]=_;rw[f,e,<-List.take_append_getElem s,List.getElem_drop];simp[Nat.add_assoc]
theorem xS {c:Type}{g:Nat->ByteArray}{L:List c}{d x:c}{t:ByteArray}{i:Nat}(hi:i<=L.length)(f:∀ m,m<i->aH (g m) t=true)(l:∀ m,i<=m->m<L.length->aH (g m) t=false)(h:∀ m,m<L.length->((g m).toList == t.toList)=false):iE g (fun j=>L.getD j d) x t L.length=L.take i++x :: L.drop i:=by
 by_cases o:i=L.length
 ·subst o
  obtain⟨a1,b⟩:=iF (d:=d) (x:=x) hi f L.length ly;unfold iE;rw[if_neg (by rw[a1];simp),b];simp
 ·obtain⟨k,n⟩:∃ k,L.length=i+k+1:=⟨L.length - i - 1,by omega⟩
  obtain⟨a1,b⟩:=kI (d:=d) (x:=x) hi f l h k (by omega);unfold iE;have e:(L.drop i).take (k+1)=L.drop i:=List.take_of_length_le (by rw[List.length_drop];omega);rw[n,if_pos a1,b,e]
theorem dX {L:List Target}{i:Nat}(h:i<L.length):ba L i=L[i]:=by rw[ba,List.getD_eq_getElem?_getD,gq h];rfl
theorem zx {g:Nat->ByteArray}{n:Nat}(h:∀ i j,i<j->j<n->aH (g i) (g j)=true):bP g n=true:=by
 induction n with
 | zero=>rfl
 | succ k c =>
  have d:=c (fun i j b hj=>h i j b (by omega));cases k with
  | zero=>rfl
  | succ m =>show(bP g (m+1) && _)=true;rw[d];exact h m (m+1) (by omega) (by omega)
def lw (K:List Target)(x:Target)(t:ByteArray):List Target:=iE (nm1 (ba K)) (fun j=>K.getD j dfT) x t K.length
theorem pw (a0:Option Addr)(n0 c0:Nat)(f0:Nat->Source)(a1:Option Addr)(n1 c1:Nat)(f1:Nat->Target)(t tx:ByteArray)(w:World)(hn0:(n0:Int)<=1048576)(hn1:(n1:Int)<=1048576)(ur:SlSource w a0 n0 f0)(zF:SlTarget w a1 n1 f1)(sm:∀ i,i<n1->bD (f1 i))(hs:∀ i,i<n1->∀ j,j<(f1 i).actN->((f1 i).act j).s.size<=maxLen):Calls Tryz.prog 11 #[.agg #[.slice a0 n0 c0,.slice a1 n1 c1],.string t,.string tx] w fun e V=>∃ v0 v1 R,e=.returned (.tuple #[.agg #[v0,v1],.int .i64 (jS n0 f0 n1 f1 t tx)])/\V.ownsRow w.heap.size 100 2 v0 (fM n0 f0 n1 f1 t tx).length ((fM n0 f0 n1 f1 t tx).flatMap be)/\TRow V w.heap.size v1 R/\R.map (·.1)=gT n0 f0 n1 f1 t tx/\Below w.heap.size w V:=by
 have V0:=ae ur;have V1:=ae zF;have HF:=ae sm;have HS:=ae hs;clear ur zF sm hs;obtain⟨H,G,M,J,Q⟩:=info_parts iP;obtain⟨C,hC⟩:∃ C,C=bi n0 f0 n1 f1:=⟨_,rfl⟩
 obtain⟨D,hD⟩:∃ D,D=jS n0 f0 n1 f1 t tx:=⟨_,rfl⟩
 obtain⟨LS,th⟩:∃ LS,LS=fM n0 f0 n1 f1 t tx:=⟨_,rfl⟩
 obtain⟨LT,qr⟩:∃ LT,LT=gT n0 f0 n1 f1 t tx:=⟨_,rfl⟩
 rw[<-hD,<-th,<-qr];have HC:=ae hC;have HD:=ae (hD.trans (by unfold jS;rw[<-hC]));have y:=ae (th.trans (by unfold fM;rw[<-hD]));have bt:=ae (qr.trans (by unfold gT;rw[<-hD]));clear hC hD th qr;have A0:=ae (((q9 w).alloc ly (.cells #[.slice a0 n0 c0,.slice a1 n1 c1] 26)).alloc (by simp) (.cells #[.slice none 0 0,.slice none 0 0] 26));have X0:=ae (pm w (.slice a0 n0 c0) (.slice a1 n1 c1) 26);go_enter Tryz.func11,Tryz.ntmps11;go_wp2_with fail;generalize (w.alloc (.cells #[.slice a0 n0 c0,.slice a1 n1 c1] 26)).alloc (.cells #[.slice none 0 0,.slice none 0 0] 26)=W at A0 X0 ⊢;refine(eu a0 n0 c0 f0 a1 n1 c1 f1 _ hn0 hn1 (V0.out.below A0.out ly) (V1.out.below A0.out ly) HF.out HS.out).mono ?_;rintro e w1 ⟨rfl,u⟩;rw[<-HC.out];have X1:=ae (X0.out.below u X0.out.lt');have B1:=ae (A0.out.trans (u.mono A0.out.size));clear u A0 X0;by_cases hc:C=0;case neg =>
  have hd:=HD.out;rw[if_pos hc] at hd;have q:=y.out;rw[if_neg (by omega)] at q;have n:=bt.out;rw[if_neg (by omega)] at n;subst hd q n;have hc':(C == 0)=false:=by simpa using hc
  obtain⟨r0,q0⟩:=X1.out.r0;obtain⟨r1,Z⟩:=X1.out.r1;go_wp2;exact bp (v:=.tuple #[.agg #[.slice none 0 0,.slice none 0 0],.int .i64 1]) (by simp[results,Tryz.results11,go_sem,r0,r1]) rfl ⟨_,_,[],rfl,World.ownsRow_nil _ _ _ _,cL _ _,rfl,(B1.out.setCell (by simp) _).setCell (by simp) _⟩
 subst hc;have hz:=je HC.out.symm;have HZ:=ae hz;clear hz HC;have n8:=HD.out;rw[if_neg (by omega)] at n8;have ro:=ae n8;clear n8 HD;go_wp2_with fail;refine(bk t _).mono ?_;rintro e w2 ⟨rfl,u⟩;have O:=ae (X1.out.below u X1.out.lt');have Y:=ae (B1.out.trans (u.mono B1.out.size));clear u X1 B1;by_cases m:aw t=false∨2000<(tx.size:Int)
 ·have hd:=ro.out
  rw[if_pos m] at hd;have q:=y.out;rw[if_neg (by omega)] at q;have n:=bt.out;rw[if_neg (by omega)] at n;subst hd q n;obtain⟨r0,q0⟩:=O.out.r0;obtain⟨r1,Z⟩:=O.out.r1;cases hn:aw t with
  | false =>clear m;go_wp2;exact bp (v:=.tuple #[.agg #[.slice none 0 0,.slice none 0 0],.int .i64 2]) (by simp[results,Tryz.results11,go_sem,r0,r1]) rfl ⟨_,_,[],rfl,World.ownsRow_nil _ _ _ _,cL _ _,rfl,(Y.out.setCell (by simp) _).setCell (by simp) _⟩
  | true =>have zH:(2000:Int)<tx.size:=m.resolve_left (by simp[hn]);clear m;go_wp2;exact bp (v:=.tuple #[.agg #[.slice none 0 0,.slice none 0 0],.int .i64 2]) (by simp[results,Tryz.results11,go_sem,r0,r1]) rfl ⟨_,_,[],rfl,World.ownsRow_nil _ _ _ _,cL _ _,rfl,(Y.out.setCell (by simp) _).setCell (by simp) _⟩
 have mv:=ro.out;rw[if_neg m] at mv;have zD:=ae mv;have hn:aw t=true:=by
  cases h:aw t with
  | true=>rfl
  | false=>exact absurd (.inl h) m
 have zH:¬ (2000:Int)<tx.size:=fun h=>m (.inr h);clear mv ro m;have k0:=O.out.a0;have k1:=O.out.a1;rw[hn];go_wp2_with fail;refine(fc a0 n0 c0 f0 a1 n1 c1 f1 t _ hn0 hn1 (V0.out.below Y.out ly) (V1.out.below Y.out ly) HF.out).mono ?_;rintro e A ⟨v0,v1,R,rfl,hO,hR,hM,u⟩;have hlt2:=O.out.lt;have X3:=ae (O.out.below u O.out.lt');have B3:=ae (Y.out.trans (u.mono Y.out.size));obtain⟨sa,sc,rfl⟩:=aL hO;obtain⟨ta,T,rfl⟩:=aL hR.own;have eR:R.length=(ce f1 t n1).length:=by rw[<-hM];simp
 have zI:=jQ f0 t n0;have zJ:=jR f1 t n1;obtain⟨L,hL⟩:∃ L,L=bw f0 t n0:=⟨_,rfl⟩
 obtain⟨K,hK⟩:∃ K,K=ce f1 t n1:=⟨_,rfl⟩
 rw[<-hL] at hO zI ⊢;rw[<-hK] at hM zJ eR;have E:=zD.out;rw[<-hL,<-hK] at E;have q:=y.out;rw[<-hL] at q;have n:=bt.out;rw[<-hK] at n;have ER:=ae eR;have hlr:R.length<=n1:=by omega
 clear zD y bt hL hK u k0 k1 hn O Y eR;have O3:=ae (aB hO (base':=w.heap.size) (by omega));have RX:Hid (∀ V,Below A.heap.size A V->TRow V (w2.heap.size+3) (.slice ta R.length T) R):=fun V hb=>hR.below hb ly;have HM:=ae hM;have hll:(L.length:Int)<=1048576:=by omega
 clear hO hR hM;have DB:=ae ((q9 A).alloc ly (.cells #[.slice sa L.length sc,.slice ta R.length T] 26));have U:=ae (pr A (.slice sa L.length sc) (.slice ta R.length T) 26);have X4:=ae (X3.out.below DB.out X3.out.lt');have B4:=ae (B3.out.trans (DB.out.mono B3.out.size));have O4:=ae (own_below O3.out DB.out ly);have aq:=ae DB.out;have zE:w.heap.size+1<A.heap.size:=X3.out.lt;have c8:=U.out.c0;have c9:=U.out.c1;clear O3 DB;by_cases hc3:(200:Int)<=L.length+R.length
 ·rw[if_pos (by have:=ER.out;omega)] at E
  rw[if_neg (by omega)] at q n;subst E q n;obtain⟨r0,q0⟩:=X3.out.r0;obtain⟨r1,Z⟩:=X3.out.r1;clear c8 c9;go_wp2;exact bp (v:=.tuple #[.agg #[.slice none 0 0,.slice none 0 0],.int .i64 3]) (by simp[results,Tryz.results11,go_sem,r0,r1,zE]) rfl ⟨_,_,[],rfl,World.ownsRow_nil _ _ _ _,cL _ _,rfl,((B3.out.setCell (by simp) _).setCell (by simp) _).alloc (by have:=B3.out.size;simp;omega) _⟩
 clear X3 B3;rw[if_neg (by have:=ER.out;omega)] at E;rw[if_pos E] at q n;subst E n;have y:=ae q;clear q;go_wp2;have P:(A.alloc (.cells #[.slice sa L.length sc,.slice ta R.length T] 26)).heap.size=A.heap.size+1:=by simp
 generalize A.alloc (.cells #[.slice sa L.length sc,.slice ta R.length T] 26)=w4 at U X4 B4 O4 aq c8 c9 P ⊢;generalize A.heap.size=X at U c8 c9 zE P RX aq ⊢;obtain⟨r,n9⟩:∃ r,r=w4.heap.size:=⟨_,rfl⟩
 have E0:Hid (Below r w4 (w4.alloc (.cells #[] 100))):=by rw[n9];exact br.alloc ly _
 have W0:Hid ((w4.alloc (.cells #[] 100)).ownsRow r 100 2 (.slice (some ⟨X+1,0,none⟩) 0 0) 0 []):=by rw[<-P];exact World.ownsRow_made w4 #[] 0 (by omega) (by unfold maxLen;omega) rfl
 have x:X<r:=by have:=U.out.lt;omega
 have f:=ae n9;have N:=ae P;clear n9 P;go_loopw [9,10,11] (fun v d i wr=>∃ (k:Nat) (db:Bool),k<=L.length/\i=.int .i64 k/\d=.bool db/\Hid (db=dl L t k)/\Hid (wr.ownsRow r 100 2 v (bE L ⟨t,tx⟩ t k).length ((bE L ⟨t,tx⟩ t k).flatMap be))/\Hid (Below r w4 wr)) (fun _ _ i _=>L.length - (intOf i).toNat);case atStart=>exact⟨0,false,by omega,rfl,rfl,rfl,W0.out,E0.out⟩
 case round =>
  obtain⟨k,db,hk,rfl,rfl,B,z,l⟩:=hrel;have e8:=(l.out.cell (p:=⟨X,0,none⟩) x).trans c8;have zG:=uq L ⟨t,tx⟩ t k;obtain⟨hlen1,ex⟩:=zG;have HL2:=ae ex;clear ex;by_cases n:k<L.length
  ·obtain⟨b,off,rfl,hr⟩:=(iL O4.out).resolve_left (by omega)
   obtain⟨p0,p1⟩:=hr.2 k n;have ld:b<r:=by have:=hr.1;have:=f.out;omega
   have d0:=(l.out.cell (p:=⟨b,off+k*2,none⟩) ld).trans p0;have d1:=(l.out.cell (p:=⟨b,off+k*2+1,none⟩) ld).trans p1;clear hr;cases db with
   | true =>
    have HI:Hid (bE L ⟨t,tx⟩ t (k+1)=bE L ⟨t,tx⟩ t k++[aO L k]):=by show(if _ then _ else _)=_;rw[if_neg (by rw[<-B.out];simp)]
    have HN:Hid (true=dl L t (k+1)):=by show true=(dl L t k || _);rw[<-B.out];rfl
    go_wp2_with (at_builtin;(refine wpList_append_own _ rfl (.tmp 63) (.tmp 69) 23 rfl r 100 H (.agg #[.string ⟨#[]⟩,.string ⟨#[]⟩]) 2 32 Tryz.underlying23 G M J Q rfl (by decide) _ (bE L ⟨t,tx⟩ t k).length ((bE L ⟨t,tx⟩ t k).flatMap be) (by simp[Act.eval]) (z.out.alloc _) ⟨wr.heap.size,0,none⟩ 1 1 (be (aO L k)) (by simp[Act.eval]) rfl (da wr _ _ _) (by simp[be,Value.oneCell']) (by unfold maxLen;omega) (by omega) (by have:=l.out.size;have:=f.out;simp;omega) ?_;intro vy wy g c o;have OY:=ae g;have BY:=ae (bg (l.out.alloc (by have:=l.out.size;have:=f.out;omega) (.cells #[.string (aO L k).name,.string (aO L k).text] 100)) c (by have:=l.out.size;have:=f.out;simp;omega) (fun j e=>(z.out.lt j e).1));clear g c o));exact⟨⟨k+1,true,by omega,by go_num,rfl,HN.out,by show World.ownsRow _ _ _ _ _ _ _;rw[HI.out,List.length_append,List.flatMap_append];simpa using OY.out,BY.out⟩,by simp[intOf];omega⟩
   | false =>
    cases hq:aH t (aO L k).name with
    | true =>
     have HI:Hid (bE L ⟨t,tx⟩ t (k+1)=bE L ⟨t,tx⟩ t k++[⟨t,tx⟩]++[aO L k]):=by show(if _ then _ else _)=_;rw[if_pos ⟨B.out.symm,hq⟩]
     have HN:Hid (true=dl L t (k+1)):=by show true=(dl L t k || _);rw[hq];simp
     obtain⟨Z,q2⟩:=fY hq;clear hq;go_wp2_with (at_builtin;first | (refine wpList_append_own _ rfl (.tmp 57) (.tmp 61) 23 rfl r 100 H (.agg #[.string ⟨#[]⟩,.string ⟨#[]⟩]) 2 32 Tryz.underlying23 G M J Q rfl (by decide) _ (bE L ⟨t,tx⟩ t k).length ((bE L ⟨t,tx⟩ t k).flatMap be) (by simp[Act.eval]) (z.out.alloc _) ⟨wr.heap.size,0,none⟩ 1 1 (be ⟨t,tx⟩) (by simp[Act.eval]) rfl (da wr _ _ _) (by simp[be,Value.oneCell']) (by unfold maxLen;omega) (by omega) (by have:=l.out.size;have:=f.out;simp;omega) ?_;intro vx wx g c o;have OX:=ae g;have S:=ae (bg (l.out.alloc (by have:=l.out.size;have:=f.out;omega) (.cells #[.string t,.string tx] 100)) c (by have:=l.out.size;have:=f.out;simp;omega) (fun j e=>(z.out.lt j e).1));have f8:=(S.out.cell (p:=⟨X,0,none⟩) x).trans c8;have g0:=(S.out.cell (p:=⟨b,off+k*2,none⟩) ld).trans p0;have g1:=(S.out.cell (p:=⟨b,off+k*2+1,none⟩) ld).trans p1;clear g c o) | (refine wpList_append_own _ rfl (.tmp 63) (.tmp 69) 23 rfl r 100 H (.agg #[.string ⟨#[]⟩,.string ⟨#[]⟩]) 2 32 Tryz.underlying23 G M J Q rfl (by decide) _ ((bE L ⟨t,tx⟩ t k).length+1) ((bE L ⟨t,tx⟩ t k).flatMap be++be ⟨t,tx⟩) (by simp[Act.eval]) (OX.out.alloc _) ⟨wx.heap.size,0,none⟩ 1 1 (be (aO L k)) (by simp[Act.eval]) rfl (da wx _ _ _) (by simp[be,Value.oneCell']) (by unfold maxLen;omega) (by omega) (by have:=S.out.size;have:=f.out;simp;omega) ?_;intro vy wy g c o;have OY:=ae g;have BY:=ae (bg (S.out.alloc (by have:=S.out.size;have:=f.out;omega) (.cells #[.string (aO L k).name,.string (aO L k).text] 100)) c (by have:=S.out.size;have:=f.out;simp;omega) (fun j e=>(OX.out.lt j e).1));clear g c o));exact⟨⟨k+1,true,by omega,by go_num,rfl,HN.out,by show World.ownsRow _ _ _ _ _ _ _;rw[HI.out,List.length_append,List.length_append,List.flatMap_append,List.flatMap_append];simpa using OY.out,BY.out⟩,by simp[intOf];omega⟩
    | false =>
     have HI:Hid (bE L ⟨t,tx⟩ t (k+1)=bE L ⟨t,tx⟩ t k++[aO L k]):=by show(if _ then _ else _)=_;rw[if_neg (by rw[hq];simp)]
     have HN:Hid (false=dl L t (k+1)):=by show false=(dl L t k || _);rw[<-B.out,hq];rfl
     have HQ:=ae (gS hq);clear hq;rcases HQ.out with Z | ⟨Z,q2⟩
     all_goals
      go_wp2_with (at_builtin;(refine wpList_append_own _ rfl (.tmp 63) (.tmp 69) 23 rfl r 100 H (.agg #[.string ⟨#[]⟩,.string ⟨#[]⟩]) 2 32 Tryz.underlying23 G M J Q rfl (by decide) _ (bE L ⟨t,tx⟩ t k).length ((bE L ⟨t,tx⟩ t k).flatMap be) (by simp[Act.eval]) (z.out.alloc _) ⟨wr.heap.size,0,none⟩ 1 1 (be (aO L k)) (by simp[Act.eval]) rfl (da wr _ _ _) (by simp[be,Value.oneCell']) (by unfold maxLen;omega) (by omega) (by have:=l.out.size;have:=f.out;simp;omega) ?_;intro vy wy g c o;have OY:=ae g;have BY:=ae (bg (l.out.alloc (by have:=l.out.size;have:=f.out;omega) (.cells #[.string (aO L k).name,.string (aO L k).text] 100)) c (by have:=l.out.size;have:=f.out;simp;omega) (fun j e=>(z.out.lt j e).1));clear g c o));exact⟨⟨k+1,false,by omega,by go_num,rfl,HN.out,by show World.ownsRow _ _ _ _ _ _ _;rw[HI.out,List.length_append,List.flatMap_append];simpa using OY.out,BY.out⟩,by simp[intOf];omega⟩
  ·have e:L.length=k:=by omega
   subst e;cases db with
   | true =>
    have I:gu L ⟨t,tx⟩ t=bE L ⟨t,tx⟩ t L.length:=by unfold gu;rw[if_pos B.out.symm]
    obtain⟨va,vc,rfl⟩:=aL z.out;have OF:Hid (wr.ownsRow r 100 2 (.slice va (bE L ⟨t,tx⟩ t L.length).length vc) LS.length (LS.flatMap be)):=by show World.ownsRow _ _ _ _ _ _ _;rw[y.out,I];exact z.out
    have fd:=f.out;have la:=N.out;have H1:=ae fd;have H2:=ae la;have H3:=ae I;have e9:=(l.out.cell (p:=⟨X,1,none⟩) x).trans c9;have y8:=(l.out.frozen (p:=⟨X,0,none⟩) x).trans U.out.z0;obtain⟨r0,q0⟩:=(X4.out.below l.out (by omega)).r0;obtain⟨r1,Z⟩:=(X4.out.below l.out (by omega)).r1;clear fd la I;go_wp2;have fd:=f.out;have la:=N.out;exact bp (v:=.tuple #[.agg #[.slice va (bE L ⟨t,tx⟩ t L.length).length vc,.slice ta R.length T],.int .i64 0]) (by simp[results,Tryz.results11,go_sem,r0,r1]) rfl ⟨_,_,R,rfl,aB (aD (aD (aD OF.out (R:=X) (j:=0) (by omega) _) (R:=w.heap.size+1) (j:=0) (by omega) _) (R:=w.heap.size+1) (j:=1) (by omega) _) (by omega),fo (((RX.out _ ((aq.out.trans (l.out.mono (by omega))).setCell (p:=⟨X,0,none⟩) ly _)).set (X:=w.heap.size+1) (j:=0) (by omega) _).set (X:=w.heap.size+1) (j:=1) (by omega) _) (by omega),HM.out,(((B4.out.trans (l.out.mono (by omega))).setCell (by simp;omega) _).setCell (by simp) _).setCell (by simp) _⟩
   | false =>
    go_wp2_with (at_builtin;(refine wpList_append_own _ rfl (.tmp 73) (.tmp 77) 23 rfl r 100 H (.agg #[.string ⟨#[]⟩,.string ⟨#[]⟩]) 2 32 Tryz.underlying23 G M J Q rfl (by decide) _ (bE L ⟨t,tx⟩ t L.length).length ((bE L ⟨t,tx⟩ t L.length).flatMap be) (by simp[Act.eval]) (z.out.alloc _) ⟨wr.heap.size,0,none⟩ 1 1 (be ⟨t,tx⟩) (by simp[Act.eval]) rfl (da wr _ _ _) (by simp[be,Value.oneCell']) (by unfold maxLen;omega) (by omega) (by have:=l.out.size;have:=f.out;simp;omega) ?_;intro vz wz g c o;obtain⟨gs,cs,rfl⟩:=dA g (by omega);have OZ:=ae g;have BZ:=ae (bg (l.out.alloc (by have:=l.out.size;have:=f.out;omega) (.cells #[.string t,.string tx] 100)) c (by have:=l.out.size;have:=f.out;simp;omega) (fun j e=>(z.out.lt j e).1));have f8:=(BZ.out.cell (p:=⟨X,0,none⟩) x).trans c8;have f9:=(BZ.out.cell (p:=⟨X,1,none⟩) x).trans c9;have y8:=(BZ.out.frozen (p:=⟨X,0,none⟩) x).trans U.out.z0;obtain⟨r0,q0⟩:=(X4.out.below BZ.out (by have:=f.out;have:=N.out;omega)).r0;obtain⟨r1,Z⟩:=(X4.out.below BZ.out (by have:=f.out;have:=N.out;omega)).r1;clear g c o));have I:gu L ⟨t,tx⟩ t=bE L ⟨t,tx⟩ t L.length++[⟨t,tx⟩]:=by unfold gu;rw[if_neg (by rw[<-B.out];simp)]
    have OF:Hid (wz.ownsRow r 100 2 (.slice (some ⟨gs,0,none⟩) ((bE L ⟨t,tx⟩ t L.length).length+1) cs) LS.length (LS.flatMap be)):=by show World.ownsRow _ _ _ _ _ _ _;rw[y.out,I,List.length_append,List.flatMap_append];simpa using OZ.out
    have fd:=f.out;have la:=N.out;exact bp (v:=.tuple #[.agg #[.slice (some ⟨gs,0,none⟩) ((bE L ⟨t,tx⟩ t L.length).length+1) cs,.slice ta R.length T],.int .i64 0]) (by simp[results,Tryz.results11,go_sem,r0,r1]) rfl ⟨_,_,R,rfl,aB (aD (aD (aD OF.out (R:=X) (j:=0) (by omega) _) (R:=w.heap.size+1) (j:=0) (by omega) _) (R:=w.heap.size+1) (j:=1) (by omega) _) (by omega),fo (((RX.out _ ((aq.out.trans (BZ.out.mono (by omega))).setCell (p:=⟨X,0,none⟩) ly _)).set (X:=w.heap.size+1) (j:=0) (by omega) _).set (X:=w.heap.size+1) (j:=1) (by omega) _) (by omega),HM.out,(((B4.out.trans (BZ.out.mono (by omega))).setCell (by simp;omega) _).setCell (by simp) _).setCell (by simp) _⟩
theorem px (a0:Option Addr)(n0 c0:Nat)(f0:Nat->Source)(a1:Option Addr)(n1 c1:Nat)(f1:Nat->Target)(t:ByteArray)(w:World)(hn0:(n0:Int)<=1048576)(hn1:(n1:Int)<=1048576)(aq:SlSource w a0 n0 f0)(bt:SlTarget w a1 n1 f1)(P:∀ i,i<n1->bD (f1 i))(hs:∀ i,i<n1->∀ j,j<(f1 i).actN->((f1 i).act j).s.size<=maxLen):Calls Tryz.prog 19 #[.agg #[.slice a0 n0 c0,.slice a1 n1 c1],.string t] w fun e w'=>∃ v0 Z R,e=.returned (.tuple #[.agg #[v0,Z],.int .i64 (jc n0 f0 n1 f1 t)])/\w'.ownsRow w.heap.size 100 2 v0 (gC n0 f0 n1 f1 t).length ((gC n0 f0 n1 f1 t).flatMap be)/\TRow w' w.heap.size Z R/\R.map (·.1)=jd n0 f0 n1 f1 t/\Below w.heap.size w w':=by
 have V:=ae aq;have U:=ae bt;have HF:=ae P;have HS:=ae hs;clear aq bt P hs;obtain⟨C,hC⟩:∃ C,C=bi n0 f0 n1 f1:=⟨_,rfl⟩
 obtain⟨D,I⟩:∃ D,D=jc n0 f0 n1 f1 t:=⟨_,rfl⟩
 obtain⟨LS,S⟩:∃ LS,LS=gC n0 f0 n1 f1 t:=⟨_,rfl⟩
 obtain⟨LT,K⟩:∃ LT,LT=jd n0 f0 n1 f1 t:=⟨_,rfl⟩
 rw[<-I,<-S,<-K];have HC:=ae hC;have HD:=ae (I.trans (by unfold jc;rw[<-hC]));have k:=ae (S.trans (by unfold gC;rw[<-I]));have l:=ae (K.trans (by unfold jd;rw[<-I]));clear hC I S K;have B:=ae (((q9 w).alloc ly (.cells #[.slice a0 n0 c0,.slice a1 n1 c1] 26)).alloc (by simp) (.cells #[.slice none 0 0,.slice none 0 0] 26));have X0:=ae (pm w (.slice a0 n0 c0) (.slice a1 n1 c1) 26);go_enter Tryz.func19,Tryz.ntmps19;go_wp2_with fail;generalize (w.alloc (.cells #[.slice a0 n0 c0,.slice a1 n1 c1] 26)).alloc (.cells #[.slice none 0 0,.slice none 0 0] 26)=W at B X0 ⊢;refine(eu a0 n0 c0 f0 a1 n1 c1 f1 _ hn0 hn1 (V.out.below B.out ly) (U.out.below B.out ly) HF.out HS.out).mono ?_;rintro e w1 ⟨rfl,b⟩;rw[<-HC.out];have M:=ae (X0.out.below b X0.out.lt');have B1:=ae (B.out.trans (b.mono B.out.size));clear b B X0;by_cases hc:C=0;case neg =>
  have f:=HD.out;rw[if_pos hc] at f;have d:=k.out;rw[if_neg (by omega)] at d;have c:=l.out;rw[if_neg (by omega)] at c;subst f d c;have hc':(C == 0)=false:=by simpa using hc
  obtain⟨r0,Y⟩:=M.out.r0;obtain⟨r1,q1⟩:=M.out.r1;go_wp2;exact bp (v:=.tuple #[.agg #[.slice none 0 0,.slice none 0 0],.int .i64 1]) (by simp[results,Tryz.results19,go_sem,r0,r1]) rfl ⟨_,_,[],rfl,World.ownsRow_nil _ _ _ _,cL _ _,rfl,(B1.out.setCell (by simp) _).setCell (by simp) _⟩
 subst hc;have hz:=je HC.out.symm;have HZ:=ae hz;clear hz HC;have H:=HD.out;rw[if_neg (by omega)] at H;have L:=ae H;clear H HD;go_wp2_with fail;refine(bk t _).mono ?_;rintro e w2 ⟨rfl,b⟩;have u:=ae (M.out.below b M.out.lt');have J:=ae (B1.out.trans (b.mono B1.out.size));clear b M B1;cases hn:aw t with
 | false =>have f:=L.out;rw[if_pos hn] at f;have d:=k.out;rw[if_neg (by omega)] at d;have c:=l.out;rw[if_neg (by omega)] at c;subst f d c;clear hn;obtain⟨r0,Y⟩:=u.out.r0;obtain⟨r1,q1⟩:=u.out.r1;go_wp2;exact bp (v:=.tuple #[.agg #[.slice none 0 0,.slice none 0 0],.int .i64 2]) (by simp[results,Tryz.results19,go_sem,r0,r1]) rfl ⟨_,_,[],rfl,World.ownsRow_nil _ _ _ _,cL _ _,rfl,(J.out.setCell (by simp) _).setCell (by simp) _⟩
 | true =>
  have T:=L.out;rw[if_neg (by simp[hn])] at T;have O:=ae T;clear T L hn;have A:=u.out.a0;have E:=u.out.a1;go_wp2_with fail;refine(pq a0 n0 c0 a1 n1 c1 f0 t _ hn0 (V.out.below J.out ly)).mono ?_;rintro e wS ⟨r,rfl,z,b⟩;have G:=ae (u.out.below b u.out.lt');have Q:=ae (J.out.trans (b.mono J.out.size));clear b u J A E;have A:=G.out.a0;have E:=G.out.a1;by_cases hr:r<0
  ·have ex:Hid (bS (nm0 f0) n0 t=false):=by show _=false;rw[<-z];simpa using hr
   clear z;go_wp2_with fail;refine(jJ a0 n0 c0 a1 n1 c1 f1 t _ hn1 (U.out.below Q.out ly)).mono ?_;rintro e w3 ⟨q,rfl,y,b⟩;have g:=ae (G.out.below b G.out.lt');have h:=ae (Q.out.trans (b.mono Q.out.size));clear b G Q A E;have A:=g.out.a0;have E:=g.out.a1;by_cases hq:q<0
   ·have hi:(bS (nm0 f0) n0 t || bS (nm1 f1) n1 t)=false:=by rw[ex.out,<-y];simpa using hq
    clear y;have f:=O.out;rw[if_pos hi] at f;have d:=k.out;rw[if_neg (by omega)] at d;have c:=l.out;rw[if_neg (by omega)] at c;subst f d c;obtain⟨r0,Y⟩:=g.out.r0;obtain⟨r1,q1⟩:=g.out.r1;go_wp2;exact bp (v:=.tuple #[.agg #[.slice none 0 0,.slice none 0 0],.int .i64 4]) (by simp[results,Tryz.results19,go_sem,r0,r1]) rfl ⟨_,_,[],rfl,World.ownsRow_nil _ _ _ _,cL _ _,rfl,(h.out.setCell (by simp) _).setCell (by simp) _⟩
   ·have hi:(bS (nm0 f0) n0 t || bS (nm1 f1) n1 t)=true:=by rw[ex.out,<-y];simpa using hq
    clear y;have f:=O.out;rw[if_neg (by simp[hi])] at f;have d:=k.out;rw[if_pos f] at d;have c:=l.out;rw[if_pos f] at c;subst f d c;go_wp2_with fail;refine(fc a0 n0 c0 f0 a1 n1 c1 f1 t _ hn0 hn1 (V.out.below h.out ly) (U.out.below h.out ly) HF.out).mono ?_;rintro e w4 ⟨v0,Z,R,rfl,x,hR,hM,b⟩;have N:=ae (g.out.below b g.out.lt');have fd:=g.out.lt;have B4:=ae (h.out.trans (b.mono h.out.size));obtain⟨o,p,rfl⟩:=aL x;obtain⟨n,m,rfl⟩:=aL hR.own;have O4:=ae (aB (aD (aD (R:=w.heap.size+1) (j:=0) x (by omega) (.slice o (bw f0 t n0).length p)) (R:=w.heap.size+1) (j:=1) (by omega) (.slice n R.length m)) (base':=w.heap.size) (by omega));have T4:=ae (fo ((hR.set (X:=w.heap.size+1) (j:=0) (by omega) (.slice o (bw f0 t n0).length p)).set (X:=w.heap.size+1) (j:=1) (by omega) (.slice n R.length m)) (base':=w.heap.size) (by omega));have HM:=ae hM;clear x hR b hM A E;obtain⟨r0,Y⟩:=N.out.r0;obtain⟨r1,q1⟩:=N.out.r1;go_wp2;exact bp (v:=.tuple #[.agg #[.slice o (bw f0 t n0).length p,.slice n R.length m],.int .i64 0]) (by simp[results,Tryz.results19,go_sem,r0,r1]) rfl ⟨_,_,R,rfl,O4.out,T4.out,HM.out,(B4.out.setCell (by simp) _).setCell (by simp) _⟩
  ·have hi:(bS (nm0 f0) n0 t || bS (nm1 f1) n1 t)=true:=by rw[<-z];have:decide (0<=r)=true:=decide_eq_true (by omega);rw[this];rfl
   clear z;have g:=G;have h:=Q;have f:=O.out;rw[if_neg (by simp[hi])] at f;have d:=k.out;rw[if_pos f] at d;have c:=l.out;rw[if_pos f] at c;subst f d c;go_wp2_with fail;refine(fc a0 n0 c0 f0 a1 n1 c1 f1 t _ hn0 hn1 (V.out.below h.out ly) (U.out.below h.out ly) HF.out).mono ?_;rintro e w4 ⟨v0,Z,R,rfl,x,hR,hM,b⟩;have N:=ae (g.out.below b g.out.lt');have fd:=g.out.lt;have B4:=ae (h.out.trans (b.mono h.out.size));obtain⟨o,p,rfl⟩:=aL x;obtain⟨n,m,rfl⟩:=aL hR.own;have O4:=ae (aB (aD (aD (R:=w.heap.size+1) (j:=0) x (by omega) (.slice o (bw f0 t n0).length p)) (R:=w.heap.size+1) (j:=1) (by omega) (.slice n R.length m)) (base':=w.heap.size) (by omega));have T4:=ae (fo ((hR.set (X:=w.heap.size+1) (j:=0) (by omega) (.slice o (bw f0 t n0).length p)).set (X:=w.heap.size+1) (j:=1) (by omega) (.slice n R.length m)) (base':=w.heap.size) (by omega));have HM:=ae hM;clear x hR b hM A E;obtain⟨r0,Y⟩:=N.out.r0;obtain⟨r1,q1⟩:=N.out.r1;go_wp2;exact bp (v:=.tuple #[.agg #[.slice o (bw f0 t n0).length p,.slice n R.length m],.int .i64 0]) (by simp[results,Tryz.results19,go_sem,r0,r1]) rfl ⟨_,_,R,rfl,O4.out,T4.out,HM.out,(B4.out.setCell (by simp) _).setCell (by simp) _⟩
end Go.Proofs.YtkophfgkcijjkaaGreatDoor.Vp
