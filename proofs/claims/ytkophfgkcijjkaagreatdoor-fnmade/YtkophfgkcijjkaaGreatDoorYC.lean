import Derived.Test.YtkophfgkcijjkaaGreatDoorZQ
import Derived.Test.YtkophfgkcijjkaaGreatDoorYA
set_option maxRecDepth 100000
set_option maxHeartbeats 8000000
namespace Go.Proofs.YtkophfgkcijjkaaGreatDoor.Vp
open RowKit
def dp (f:Nat→Source)(t:ByteArray)(k:Nat):List Source:=((List.range k).map f).filter fun x=>!(x.name.toList == t.toList)
def cZ (f:Nat→Target)(t:ByteArray)(k:Nat):List Target:=((List.range k).map f).filter fun x=>!(x.name.toList == t.toList)
theorem qS {f:Nat→Source}{t:ByteArray}{k:Nat}(h:((f k).name.toList == t.toList)=true):dp f t (k+1)=dp f t k:=by
 simp only [dp,List.range_succ,List.map_append,List.filter_append]
 simp [h]
theorem qT {f:Nat→Source}{t:ByteArray}{k:Nat}(h:((f k).name.toList == t.toList)=false):dp f t (k+1)=dp f t k++[f k]:=by
 simp only [dp,List.range_succ,List.map_append,List.filter_append]
 simp [h]
theorem qU {f:Nat→Target}{t:ByteArray}{k:Nat}(h:((f k).name.toList == t.toList)=true):cZ f t (k+1)=cZ f t k:=by
 simp only [cZ,List.range_succ,List.map_append,List.filter_append]
 simp [h]
theorem qV {f:Nat→Target}{t:ByteArray}{k:Nat}(h:((f k).name.toList == t.toList)=false):cZ f t (k+1)=cZ f t k++[f k]:=by
 simp only [cZ,List.range_succ,List.map_append,List.filter_append]
 simp [h]
theorem lK (f:Nat→Source)(t:ByteArray)(k:Nat):(dp f t k).length≤k:=by
 have:=List.length_filter_le (fun x:Source=>!(x.name.toList == t.toList)) ((List.range k).map f)
 simpa [dp] using this
theorem sA (f:Nat→Target)(t:ByteArray)(k:Nat):(cZ f t k).length≤k:=by
 have:=List.length_filter_le (fun x:Target=>!(x.name.toList == t.toList)) ((List.range k).map f)
 simpa [cZ] using this
theorem dK {w:World}{base size n:Nat}{e:TypeId}{v:Value}{xs:List Value}(h:w.ownsRow base e size v n xs)(hn:0<n):∃ g cap,v=.slice (some ⟨g,0,none⟩) n cap:=by
 rcases h.2 with ⟨_,h0⟩ | ⟨g,cap,cur,rfl,_⟩
 ·omega
 ·exact ⟨g,cap,rfl⟩
theorem bz {w:World}{base size n:Nat}{e:TypeId}{v:Value}{xs:List Value}(h:w.ownsRow base e size v n xs):∃ a cap,v=.slice a n cap:=by
 rcases h.2 with ⟨rfl,rfl⟩ | ⟨g,cap,cur,rfl,_⟩
 ·exact ⟨_,_,rfl⟩
 ·exact ⟨_,_,rfl⟩
theorem eI (w:World)(x y:Value)(t:TypeId):∀ j u,[x,y][j]?=some u→(w.alloc (.cells #[x,y] t)).cell? ((⟨w.heap.size,0,none⟩:Addr).add j)=some u:=by
 intro j u hj
 rw [addr_add,Nat.zero_add]
 match j,hj with
 | 0,hj=>simp at hj;subst hj;simp
 | 1,hj=>simp at hj;subst hj;simp
abbrev TR:=Target × Nat × Nat
def bu (r:TR):List Value:=[.string r.1.name,.slice (some ⟨r.2.1,0,none⟩) r.1.actN r.2.2]
structure TRow (w:World)(base:Nat)(v:Value)(R:List TR):Prop where
 own:w.ownsRow base 104 2 v R.length (R.flatMap bu)
 act:∀ r∈R,RowIns w r.2.1 0 r.1.actN r.1.act∧(∃ F,Cells w r.2.1 0 (r.1.actN*3) F)∧TypeAt w r.2.1 176∧base≤r.2.1
 up:R.Pairwise fun a b=>a.2.1≠b.2.1
theorem TypeAt.block {w w':World}{g:Nat}{e:TypeId}(h:TypeAt w g e)(hb:w'.heap[g]?=w.heap[g]?):TypeAt w' g e:=by
 obtain ⟨c,hc⟩:=h
 exact ⟨c,hb.trans hc⟩
theorem RowIns.block {w w':World}{g off n:Nat}{f:Nat→Ins}(h:RowIns w g off n f)(hz:w.heap.size≤w'.heap.size)(hb:w'.heap[g]?=w.heap[g]?):RowIns w' g off n f:=by
 refine ⟨ll h.1 hz,fun i hi=>?_⟩
 obtain ⟨h0,h1,h2⟩:=h.2 i hi
 exact ⟨(World.cell?_of_block (a:=⟨g,_,none⟩) hb).trans h0,(World.cell?_of_block (a:=⟨g,_,none⟩) hb).trans h1,(World.cell?_of_block (a:=⟨g,_,none⟩) hb).trans h2⟩
theorem Cells.block {w w':World}{b off m:Nat}{F:Nat→Value}(h:Cells w b off m F)(hz:w.heap.size≤w'.heap.size)(e:w'.heap[b]?=w.heap[b]?):Cells w' b off m F :=
 ⟨ll h.1 hz,fun j hj=>⟨(World.cell?_of_block (a:=⟨b,off+j,none⟩) e).trans (h.2 j hj).1,(World.frozen?_of_block (a:=⟨b,off+j,none⟩) e).trans (h.2 j hj).2⟩⟩
theorem TRow.below {w w':World}{base B:Nat}{v:Value}{R:List TR}(h:TRow w base v R)(hb:Below B w w')(hB:w.heap.size≤B):TRow w' base v R:=by
 refine ⟨own_below h.own hb hB,fun r hr=>?_,h.up⟩
 obtain ⟨h1,⟨F,h2⟩,h3,h4⟩:=h.act r hr
 have e:=hb.block r.2.1 (ll h1.1 hB)
 exact ⟨h1.block hb.size e,⟨F,h2.block hb.size e⟩,h3.block e,h4⟩
theorem TRow.set {w:World}{base X j:Nat}{v:Value}{R:List TR}(h:TRow w base v R)(hX:X<base)(u:Value):TRow (w.setCell ⟨X,j,none⟩ u) base v R:=by
 refine ⟨aS h.own hX u,fun r hr=>?_,h.up⟩
 obtain ⟨h1,⟨F,h2⟩,h3,h4⟩:=h.act r hr
 have e:(w.setCell ⟨X,j,none⟩ u).heap[r.2.1]?=w.heap[r.2.1]?:=Below.heap_setCell _ _ _ _ (by simp;omega)
 exact ⟨h1.block (by simp) e,⟨F,h2.block (by simp) e⟩,h3.block e,h4⟩
theorem jI (w:World)(base:Nat):TRow w base (.slice none 0 0) []:=⟨World.ownsRow_nil _ _ _ _,fun r hr=>absurd hr (by simp),List.Pairwise.nil⟩
theorem TRow.type {w:World}{base:Nat}{v:Value}{R:List TR}(h:TRow w base v R):∀ k,v.ownBlock=some k→TypeAt w k 104:=by
 intro k hk
 rcases h.own.2 with ⟨rfl,_⟩ | ⟨g,cap,cur,rfl,_,hg,_⟩
 ·simp [Value.ownBlock] at hk
 ·simp [Value.ownBlock] at hk
  subst hk
  exact ⟨cur,hg⟩
theorem TRow.more {w w1 w2:World}{base g c:Nat}{v v':Value}{R:List TR}{x:Target}(h:TRow w base v R)(hb:Below w.heap.size w w1)(hg:w.heap.size≤g)(hbase:base≤g)
  (hO:w1.ownsRow base 176 3 (.slice (some ⟨g,0,none⟩) x.actN c) x.actN (bP x.act x.actN)) (hown:w2.ownsRow base 104 2 v' (R.length+1) (R.flatMap bu++bu (x,g,c))) (hgr:w1.grownBy w2 v.ownBlock):TRow w2 base v' (R++[(x,g,c)]):=by
 have hne:∀ k,TypeAt w1 k 176→some k≠v.ownBlock:=fun k hk e=>by
  have ht:=(h.below hb lr).type k e.symm
  exact cT hk ht (by decide) rfl
 have one:∀ r∈R,r.2.1<w.heap.size:=fun r hr=>(h.act r hr).1.1
 refine ⟨by simpa using hown,fun r hr=>?_,?_⟩
 ·rcases List.mem_append.1 hr with hr | hr
  ·obtain ⟨h1,⟨F,h2⟩,h3,h4⟩:=(h.below hb lr).act r hr
   have e:=hgr.block r.2.1 h1.1 (hne _ h3)
   exact ⟨h1.block hgr.size e,⟨F,h2.block hgr.size e⟩,h3.block e,h4⟩
  ·simp at hr
   subst hr
   obtain ⟨h1,F,h2⟩:=jg hO
   have h3:=dG hO
   have e:=hgr.block g h1.1 (hne _ h3)
   exact ⟨h1.block hgr.size e,⟨F,h2.block hgr.size e⟩,h3.block e,hbase⟩
 ·rw [List.pairwise_append]
  refine ⟨h.up,by simp,fun a ha b hb'=>?_⟩
  simp at hb'
  subst hb'
  have:=one a ha
  show a.2.1≠g
  omega
theorem sB {w:World}{b0 b1 s0 s1 n0 n1:Nat}{e0 e1:TypeId}{v0 v1:Value}{x0 x1:List Value}(h0:w.ownsRow b0 e0 s0 v0 n0 x0)(h1:w.ownsRow b1 e1 s1 v1 n1 x1)(hne:e0≠e1):v0.ownBlock=none∨v0.ownBlock≠v1.ownBlock:=by
 rcases h0.2 with ⟨rfl,_⟩ | ⟨g,cap,cur,rfl,_,hg,_⟩
 ·exact .inl rfl
 ·right
  rcases h1.2 with ⟨rfl,_⟩ | ⟨g',cap',cur',rfl,_,hg',_⟩
  ·simp [Value.ownBlock]
  ·simp only [Value.ownBlock,ne_eq,Option.some.injEq]
   exact cT ⟨cur,hg⟩ ⟨cur',hg'⟩ hne
structure Boxes (w:World)(h:Nat)(p0 p1 v0 v1:Value):Prop where
 lt:h+2<w.heap.size
 a0:w.cell? ⟨h,0,none⟩=some p0
 a1:w.cell? ⟨h,1,none⟩=some p1
 r0:w.cell? ⟨h+1,0,none⟩=some (.slice none 0 0)∧w.frozen? ⟨h+1,0,none⟩=false
 r1:w.cell? ⟨h+1,1,none⟩=some (.slice none 0 0)∧w.frozen? ⟨h+1,1,none⟩=false
 o0:w.cell? ⟨h+1+1,0,none⟩=some v0∧w.frozen? ⟨h+1+1,0,none⟩=false
 o1:w.cell? ⟨h+1+1,1,none⟩=some v1∧w.frozen? ⟨h+1+1,1,none⟩=false
theorem Boxes.below {w w':World}{h B:Nat}{p0 p1 v0 v1:Value}(b:Boxes w h p0 p1 v0 v1)(hb:Below B w w')(hB:h+3≤B):Boxes w' h p0 p1 v0 v1:=by
 have c:∀ k o,k<B→w'.cell? ⟨k,o,none⟩=w.cell? ⟨k,o,none⟩:=fun k o hk=>hb.cell (p:=⟨k,o,none⟩) hk
 have f:∀ k o,k<B→w'.frozen? ⟨k,o,none⟩=w.frozen? ⟨k,o,none⟩:=fun k o hk=>hb.frozen (p:=⟨k,o,none⟩) hk
 exact ⟨ll b.lt hb.size,(c _ _ (by omega)).trans b.a0,(c _ _ (by omega)).trans b.a1,⟨(c _ _ (by omega)).trans b.r0.1,(f _ _ (by omega)).trans b.r0.2⟩,⟨(c _ _ (by omega)).trans b.r1.1,(f _ _ (by omega)).trans b.r1.2⟩,⟨(c _ _ (by omega)).trans b.o0.1,(f _ _ (by omega)).trans b.o0.2⟩,⟨(c _ _ (by omega)).trans b.o1.1,(f _ _ (by omega)).trans b.o1.2⟩⟩
theorem Boxes.set0 {w:World}{h:Nat}{p0 p1 v0 v1:Value}(b:Boxes w h p0 p1 v0 v1)(u:Value):Boxes (w.setCell ⟨h+1+1,0,none⟩ u) h p0 p1 u v1:=by
 have e:∀ k o,k≠h+1+1→(w.setCell ⟨h+1+1,0,none⟩ u).cell? ⟨k,o,none⟩=w.cell? ⟨k,o,none⟩:=fun k o hk=>cell_far _ _ _ _ (by simpa using fun e=>hk e.symm)
 exact ⟨by simpa using b.lt,(e _ _ (by omega)).trans b.a0,(e _ _ (by omega)).trans b.a1,⟨(e _ _ (by omega)).trans b.r0.1,by simpa using b.r0.2⟩,⟨(e _ _ (by omega)).trans b.r1.1,by simpa using b.r1.2⟩,⟨World.cell?_setCell_same' _ _ _ (by rw [b.o0.1];rfl),by simpa using b.o0.2⟩,⟨(World.cell?_setCell_other _ _ _ _ (by simp)).trans b.o1.1,by simpa using b.o1.2⟩⟩
theorem Boxes.set1 {w:World}{h:Nat}{p0 p1 v0 v1:Value}(b:Boxes w h p0 p1 v0 v1)(u:Value):Boxes (w.setCell ⟨h+1+1,1,none⟩ u) h p0 p1 v0 u:=by
 have e:∀ k o,k≠h+1+1→(w.setCell ⟨h+1+1,1,none⟩ u).cell? ⟨k,o,none⟩=w.cell? ⟨k,o,none⟩:=fun k o hk=>cell_far _ _ _ _ (by simpa using fun e=>hk e.symm)
 exact ⟨by simpa using b.lt,(e _ _ (by omega)).trans b.a0,(e _ _ (by omega)).trans b.a1,⟨(e _ _ (by omega)).trans b.r0.1,by simpa using b.r0.2⟩,⟨(e _ _ (by omega)).trans b.r1.1,by simpa using b.r1.2⟩,⟨(World.cell?_setCell_other _ _ _ _ (by simp)).trans b.o0.1,by simpa using b.o0.2⟩,⟨World.cell?_setCell_same' _ _ _ (by rw [b.o1.1];rfl),by simpa using b.o1.2⟩⟩
theorem sC (w:World)(p0 p1:Value)(t:TypeId):Boxes (((w.alloc (.cells #[p0,p1] t)).alloc (.cells #[.slice none 0 0,.slice none 0 0] t)).alloc (.cells #[.slice none 0 0,.slice none 0 0] t)) w.heap.size p0 p1 (.slice none 0 0) (.slice none 0 0):=by
 have A:Below (w.heap.size+1) (w.alloc (.cells #[p0,p1] t)) (((w.alloc (.cells #[p0,p1] t)).alloc (.cells #[.slice none 0 0,.slice none 0 0] t)).alloc (.cells #[.slice none 0 0,.slice none 0 0] t)):=(br.alloc (by simp) _).alloc (by simp) _
 have C:Below (w.heap.size+1+1) ((w.alloc (.cells #[p0,p1] t)).alloc (.cells #[.slice none 0 0,.slice none 0 0] t)) (((w.alloc (.cells #[p0,p1] t)).alloc (.cells #[.slice none 0 0,.slice none 0 0] t)).alloc (.cells #[.slice none 0 0,.slice none 0 0] t)):=br.alloc (by simp) _
 have hz:(w.alloc (.cells #[p0,p1] t)).heap.size=w.heap.size+1:=by simp
 have hy:((w.alloc (.cells #[p0,p1] t)).alloc (.cells #[.slice none 0 0,.slice none 0 0] t)).heap.size=w.heap.size+1+1:=by simp
 refine ⟨by simp,?_,?_,⟨?_,?_⟩,⟨?_,?_⟩,⟨?_,?_⟩,⟨?_,?_⟩⟩
 ·exact (A.cell (p:=⟨w.heap.size,0,none⟩) (Nat.lt_succ_self _)).trans (by simp)
 ·exact (A.cell (p:=⟨w.heap.size,1,none⟩) (Nat.lt_succ_self _)).trans (by simp)
 ·refine (C.cell (p:=⟨w.heap.size+1,0,none⟩) (Nat.lt_succ_self _)).trans ?_
  rw [← hz]
  simp
 ·refine (C.frozen (p:=⟨w.heap.size+1,0,none⟩) (Nat.lt_succ_self _)).trans ?_
  rw [← hz]
  simp
 ·refine (C.cell (p:=⟨w.heap.size+1,1,none⟩) (Nat.lt_succ_self _)).trans ?_
  rw [← hz]
  simp
 ·refine (C.frozen (p:=⟨w.heap.size+1,1,none⟩) (Nat.lt_succ_self _)).trans ?_
  rw [← hz]
  simp
 all_goals
  rw [← hy]
  clear A C hz hy
  generalize (w.alloc (.cells #[p0,p1] t)).alloc (.cells #[.slice none 0 0,.slice none 0 0] t)=W
  simp
structure Pair (w:World)(h:Nat)(p0 p1:Value):Prop where
 lt:h+1<w.heap.size
 a0:w.cell? ⟨h,0,none⟩=some p0
 a1:w.cell? ⟨h,1,none⟩=some p1
 r0:w.cell? ⟨h+1,0,none⟩=some (.slice none 0 0)∧w.frozen? ⟨h+1,0,none⟩=false
 r1:w.cell? ⟨h+1,1,none⟩=some (.slice none 0 0)∧w.frozen? ⟨h+1,1,none⟩=false
theorem Pair.lt' {w:World}{h:Nat}{p0 p1:Value}(b:Pair w h p0 p1):h+2≤w.heap.size:=b.lt
theorem Pair.below {w w':World}{h B:Nat}{p0 p1:Value}(b:Pair w h p0 p1)(hb:Below B w w')(hB:h+2≤B):Pair w' h p0 p1:=by
 have c:∀ k o,k<B→w'.cell? ⟨k,o,none⟩=w.cell? ⟨k,o,none⟩:=fun k o hk=>hb.cell (p:=⟨k,o,none⟩) hk
 have f:∀ k o,k<B→w'.frozen? ⟨k,o,none⟩=w.frozen? ⟨k,o,none⟩:=fun k o hk=>hb.frozen (p:=⟨k,o,none⟩) hk
 exact ⟨ll b.lt hb.size,(c _ _ (by omega)).trans b.a0,(c _ _ (by omega)).trans b.a1,⟨(c _ _ (by omega)).trans b.r0.1,(f _ _ (by omega)).trans b.r0.2⟩,⟨(c _ _ (by omega)).trans b.r1.1,(f _ _ (by omega)).trans b.r1.2⟩⟩
def dfS:Source:=⟨⟨#[]⟩,⟨#[]⟩⟩
def dfT:Target:=⟨⟨#[]⟩,0,fun _=>⟨0,⟨#[]⟩,0⟩⟩
def dfR:TR:=(dfT,0,0)
def fi (L:List Source)(i:Nat):Source:=L.getD i dfS
def cP (L:List Target)(i:Nat):Target:=L.getD i dfT
theorem jh {w:World}{base c:Nat}{a:Option Addr}{L:List Source}(h:w.ownsRow base 100 2 (.slice a L.length c) L.length (L.flatMap bM)):SlSource w a L.length (fi L):=by
 by_cases hn:L.length=0
 ·exact .inl hn
 ·obtain ⟨g,c',e⟩:=dK h (by omega)
  simp at e
  obtain ⟨rfl,rfl⟩:=e
  refine .inr ⟨g,0,rfl,(dn h).2,fun i hi=>?_⟩
  have hx:L[i]?=some (fi L i):=by rw [fi,List.getD_eq_getElem?_getD,List.getElem?_eq_getElem hi];rfl
  refine ⟨?_,?_⟩
  ·have:=(aX h (j:=i*2) (u:=.string (fi L i).name) (by have:=cy bM 2 (fun _=>rfl) L i 0 (by omega) _ hx;simpa [bM] using this)).1
   rwa [show 0+i*2=i*2 by omega]
  ·have:=(aX h (j:=i*2+1) (u:=.string (fi L i).text) (by have:=cy bM 2 (fun _=>rfl) L i 1 (by omega) _ hx;simpa [bM] using this)).1
   rwa [show 0+i*2+1=i*2+1 by omega]
theorem ji {R:List TR}{i:Nat}(hi:i<R.length):∃ r,R[i]?=some r∧r∈R:=⟨R[i],List.getElem?_eq_getElem hi,List.getElem_mem hi⟩
theorem nL {w:World}{base c:Nat}{a:Option Addr}{R:List TR}(h:TRow w base (.slice a R.length c) R):SlTarget w a R.length (cP (R.map (·.1))):=by
 by_cases hn:R.length=0
 ·exact .inl hn
 ·obtain ⟨g,c',e⟩:=dK h.own (by omega)
  simp at e
  obtain ⟨rfl,rfl⟩:=e
  refine .inr ⟨g,0,rfl,(dn h.own).2,fun i hi=>?_⟩
  obtain ⟨r,hr,hm⟩:=ji hi
  have hx:cP (R.map (·.1)) i=r.1:=by rw [cP,List.getD_eq_getElem?_getD,List.getElem?_map,hr];rfl
  rw [hx]
  obtain ⟨h1,_,_,_⟩:=h.act r hm
  refine ⟨?_,some ⟨r.2.1,0,none⟩,r.2.2,?_,h1.sl⟩
  ·have:=(aX h.own (j:=i*2) (u:=.string r.1.name) (by have:=cy bu 2 (fun _=>rfl) R i 0 (by omega) _ hr;simpa [bu] using this)).1
   rwa [show 0+i*2=i*2 by omega]
  ·have:=(aX h.own (j:=i*2+1) (u:=.slice (some ⟨r.2.1,0,none⟩) r.1.actN r.2.2) (by have:=cy bu 2 (fun _=>rfl) R i 1 (by omega) _ hr;simpa [bu] using this)).1
   rwa [show 0+i*2+1=i*2+1 by omega]
theorem lL {w:World}{base size n g cap:Nat}{e:TypeId}{xs:List Value}(h:w.ownsRow base e size (.slice (some ⟨g,0,none⟩) n cap) n xs):∃ F,Cells w g 0 (n*size) F∧∀ j,j<n*size→xs[j]?=some (F j):=by
 refine ⟨fun j=>xs[j]?.getD undef,⟨(dn h).2,fun j hj=>?_⟩,fun j hj=>?_⟩
 ·have hl:j<xs.length:=by rw [h.1];exact hj
  have:=aX h (j:=j) (u:=xs[j]) (by rw [List.getElem?_eq_getElem hl])
  show w.cell? ⟨g,0+j,none⟩=some (xs[j]?.getD undef)∧_
  rw [Nat.zero_add,List.getElem?_eq_getElem hl]
  exact this
 ·have hl:j<xs.length:=by rw [h.1];exact hj
  show xs[j]?=some (xs[j]?.getD undef)
  rw [List.getElem?_eq_getElem hl]
  rfl
theorem qW {w:World}{base c0 c1:Nat}{a0 a1:Option Addr}{L:List Source}{R:List TR}(hO:w.ownsRow base 100 2 (.slice a0 L.length c0) L.length (L.flatMap bM))(hR:TRow w base (.slice a1 R.length c1) R)(hf:∀ r∈R,r.1.actN≤1048576):SCells w a0 L.length a1 R.length (fun k=>base≤k∧k<w.heap.size):=by
 refine ⟨?_,?_⟩
 ·by_cases hn:L.length=0
  ·exact .inl hn
  ·obtain ⟨g,c',e⟩:=dK hO (by omega)
   simp at e
   obtain ⟨rfl,rfl⟩:=e
   obtain ⟨F,hF,_⟩:=lL hO
   exact .inr ⟨g,rfl,dn hO,F,hF⟩
 ·by_cases hn:R.length=0
  ·exact .inl hn
  ·obtain ⟨g,c',e⟩:=dK hR.own (by omega)
   simp at e
   obtain ⟨rfl,rfl⟩:=e
   obtain ⟨F,hF,hx⟩:=lL hR.own
   have hB:∀ i,i<R.length→∃ r,R[i]?=some r∧r∈R:=fun i hi=>ji hi
   have hget:∀ i r,R[i]?=some r→(R.getD i dfR)=r:=fun i r h=>by rw [List.getD_eq_getElem?_getD,h];rfl
   refine .inr ⟨g,fun i=>(R.getD i dfR).2.1,fun i=>(R.getD i dfR).1.actN,rfl,⟨⟨F,hF,fun i hi=>?_⟩,fun i hi=>?_,fun i hi=>?_,fun i j hi hj hij=>?_⟩,dn hR.own,fun i hi=>?_,fun i hi=>?_,fun S hS hn0=>⟨?_,fun i hi=>?_⟩⟩
   ·obtain ⟨r,hr,hm⟩:=hB i hi
    have h1:=cy bu 2 (fun _=>rfl) R i 1 (by omega) _ hr
    have h2:=hx (i*2+1) (by omega)
    rw [h2] at h1
    simp [bu] at h1
    exact ⟨r.2.2,by rw [h1,hget i r hr]⟩
   ·obtain ⟨r,hr,hm⟩:=hB i hi
    obtain ⟨_,⟨G,hG⟩,_,_⟩:=hR.act r hm
    try dsimp only
    rw [hget i r hr]
    exact ⟨G,hG⟩
   ·obtain ⟨r,hr,hm⟩:=hB i hi
    obtain ⟨_,_,h3,_⟩:=hR.act r hm
    try dsimp only
    rw [hget i r hr]
    exact cT h3 (dG hR.own) (by decide)
   ·obtain ⟨r,hr,_⟩:=hB i hi
    obtain ⟨q,hq,_⟩:=hB j hj
    try dsimp only
    rw [hget i r hr,hget j q hq]
    have hp:=List.pairwise_iff_getElem.1 hR.up
    have er:R[i]=r:=by rw [List.getElem?_eq_getElem hi] at hr;simpa using hr
    have eq:R[j]=q:=by rw [List.getElem?_eq_getElem hj] at hq;simpa using hq
    rcases Nat.lt_or_gt_of_ne hij with h | h
    ·have:=hp i j hi hj h
     rw [er,eq] at this
     omega
    ·have:=hp j i hj hi h
     rw [er,eq] at this
     omega
   ·obtain ⟨r,hr,hm⟩:=hB i hi
    obtain ⟨h1,_,_,h4⟩:=hR.act r hm
    try dsimp only
    rw [hget i r hr]
    exact ⟨h4,h1.1⟩
   ·obtain ⟨r,hr,hm⟩:=hB i hi
    try dsimp only
    rw [hget i r hr]
    exact hf r hm
   ·subst hS
    exact cT (dG hR.own) (dG hO) (by decide)
   ·subst hS
    obtain ⟨r,hr,hm⟩:=hB i hi
    obtain ⟨_,_,h3,_⟩:=hR.act r hm
    try dsimp only
    rw [hget i r hr]
    exact cT h3 (dG hO) (by decide)
theorem sD {w w':World}{base size n:Nat}{e:TypeId}{v:Value}{xs:List Value}{P:Nat→Prop}(h:w.ownsRow base e size v n xs)(ht:Touch P w w')(hP:∀ k,P k→k<base):w'.ownsRow base e size v n xs:=by
 refine ⟨h.1,?_⟩
 rcases h.2 with h | ⟨g,cap,cur,hv,hg,hc,r⟩
 ·exact .inl h
 ·refine .inr ⟨g,cap,cur,hv,hg,(ht.block g ?_ (fun hp=>by have:=hP g hp;omega)).trans hc,r⟩
  exact (Array.getElem?_eq_some_iff.1 hc).1
theorem TRow.touch {w w':World}{base:Nat}{v:Value}{R:List TR}{P:Nat→Prop}(h:TRow w base v R)(ht:Touch P w w')(hP:∀ k,P k→k<base):TRow w' base v R:=by
 refine ⟨sD h.own ht hP,fun r hr=>?_,h.up⟩
 obtain ⟨h1,⟨F,h2⟩,h3,h4⟩:=h.act r hr
 have e:=ht.block r.2.1 h1.1 (fun hp=>by have:=hP _ hp;omega)
 exact ⟨h1.block ht.size e,⟨F,h2.block ht.size e⟩,h3.block e,h4⟩
structure Held (w:World)(base N:Nat)(v0 v1:Value)(L:List Source)(R:List TR):Prop where
 own:w.ownsRow base 100 2 v0 L.length (L.flatMap bM)
 row:TRow w base v1 R
 u0:∀ k,v0.ownBlock=some k→k<N
 u1:∀ k,v1.ownBlock=some k→k<N
 u2:∀ r∈R,r.2.1<N
theorem Held.below {w w':World}{base N:Nat}{v0 v1:Value}{L:List Source}{R:List TR}(h:Held w base N v0 v1 L R)(hb:Below w.heap.size w w'):Held w' base N v0 v1 L R :=
 ⟨own_below h.own hb lr,h.row.below hb lr,h.u0,h.u1,h.u2⟩
theorem pC {w w':World}{base size n:Nat}{e:TypeId}{v:Value}{xs:List Value}{P:Nat→Prop}(h:w.ownsRow base e size v n xs)(ht:Touch P w w')(hP:∀ k,v.ownBlock=some k→¬ P k):w'.ownsRow base e size v n xs:=by
 refine ⟨h.1,?_⟩
 rcases h.2 with h | ⟨g,cap,cur,hv,hg,hc,r⟩
 ·exact .inl h
 ·refine .inr ⟨g,cap,cur,hv,hg,(ht.block g ?_ (hP g (by rw [hv];rfl))).trans hc,r⟩
  exact (Array.getElem?_eq_some_iff.1 hc).1
theorem Held.touch {w w':World}{base N:Nat}{v0 v1:Value}{L:List Source}{R:List TR}{P:Nat→Prop}(h:Held w base N v0 v1 L R)(ht:Touch P w w')(hP:∀ k,P k→k<base∨N≤k):Held w' base N v0 v1 L R:=by
 refine ⟨pC h.own ht fun k hk hp=>?_,⟨pC h.row.own ht fun k hk hp=>?_,fun r hr=>?_,h.row.up⟩,h.u0,h.u1,h.u2⟩
 ·have h1:=(h.own.lt k hk).1
  have h2:=h.u0 k hk
  have:=hP k hp
  omega
 ·have h1:=(h.row.own.lt k hk).1
  have h2:=h.u1 k hk
  have:=hP k hp
  omega
 ·obtain ⟨h1,⟨F,h2⟩,h3,h4⟩:=h.row.act r hr
  have e:=ht.block r.2.1 h1.1 (fun hp=>by have:=hP _ hp;have:=h.u2 r hr;omega)
  exact ⟨h1.block ht.size e,⟨F,h2.block ht.size e⟩,h3.block e,h4⟩
theorem Held.src {w:World}{base N n c:Nat}{a:Option Addr}{v1:Value}{L:List Source}{R:List TR}(h:Held w base N (.slice a n c) v1 L R)(hn:n=L.length):SlSource w a n (fi L):=by
 subst hn
 exact jh h.own
theorem Held.tgt {w:World}{base N n c:Nat}{a:Option Addr}{v0:Value}{L:List Source}{LT:List Target}{R:List TR}(h:Held w base N v0 (.slice a n c) L R)(hn:n=LT.length)(hM:R.map (·.1)=LT):SlTarget w a n (cP LT):=by
 subst hM
 have e:n=R.length:=by rw [hn];simp
 subst e
 exact nL h.row
theorem Held.cells {w:World}{base N n0 c0 n1 c1:Nat}{a0 a1:Option Addr}{L:List Source}{R:List TR}(h:Held w base N (.slice a0 n0 c0) (.slice a1 n1 c1) L R)(h0:n0=L.length)(h1:n1=R.length)(hf:∀ r∈R,r.1.actN≤1048576):SCells w a0 n0 a1 n1 (fun k=>base≤k∧k<N):=by
 subst h0 h1
 obtain ⟨s,t⟩:=qW h.own h.row hf
 refine ⟨?_,?_⟩
 ·rcases s with s | ⟨S,rfl,hp,r⟩
  ·exact .inl s
  ·exact .inr ⟨S,rfl,⟨hp.1,h.u0 S rfl⟩,r⟩
 ·rcases t with t | ⟨T,B,m,rfl,hT,hp,hB,hm,r⟩
  ·exact .inl t
  ·refine .inr ⟨T,B,m,rfl,hT,⟨hp.1,h.u1 T rfl⟩,fun i hi=>⟨(hB i hi).1,?_⟩,hm,r⟩
   obtain ⟨F,hF,hs⟩:=hT.row
   obtain ⟨cap,hcap⟩:=hs i hi
   obtain ⟨r',hr',hmem⟩:=ji (R:=R) (i:=i) hi
   have h2:=cy bu 2 (fun _=>rfl) R i 1 (by omega) _ hr'
   have h3:=(aX h.row.own (j:=i*2+1) (u:=.slice (some ⟨r'.2.1,0,none⟩) r'.1.actN r'.2.2) (by simpa [bu] using h2)).1
   have h4:=(hF.at (i*2+1) (i*2+1) (by omega) (by omega)).1
   rw [h3,hcap] at h4
   simp at h4
   rw [← h4.1]
   exact h.u2 r' hmem
theorem mG (a0:Option Addr)(n0 c0:Nat)(f0:Nat→Source)(a1:Option Addr)(n1 c1:Nat)(f1:Nat→Target)(t:ByteArray)(w:World)(hn0:(n0:Int)≤1048576)(hn1:(n1:Int)≤1048576)(hv0:SlSource w a0 n0 f0)(hv1:SlTarget w a1 n1 f1)(hfit:∀ i,i<n1→bh (f1 i)) :
  Calls Tryz.prog 62 #[.agg #[.slice a0 n0 c0,.slice a1 n1 c1],.string t] w fun e w'=>∃ v0 v1 R,e=.returned (.agg #[v0,v1])∧w'.ownsRow (w.heap.size+3) 100 2 v0 (dp f0 t n0).length ((dp f0 t n0).flatMap bM)∧TRow w' (w.heap.size+3) v1 R∧R.map (·.1)=cZ f1 t n1∧Below w.heap.size w w':=by
 have V0:=ae hv0
 have V1:=ae hv1
 have HF:=ae hfit
 clear hv0 hv1 hfit
 obtain ⟨i0',hi,hy0,hy1,hy2⟩:=info_parts gO
 obtain ⟨i1',hj,hz0,hz1,hz2⟩:=info_parts fK
 have A0:=ae ((((Below.refl w.heap.size w).alloc lr (.cells #[.slice a0 n0 c0,.slice a1 n1 c1] 26)).alloc (by simp) (.cells #[.slice none 0 0,.slice none 0 0] 26)).alloc (by simp;omega) (.cells #[.slice none 0 0,.slice none 0 0] 26))
 have X0:=ae (sC w (.slice a0 n0 c0) (.slice a1 n1 c1) 26)
 go_enter Tryz.func62,Tryz.ntmps62
 go_wp2
 generalize ((w.alloc (.cells #[.slice a0 n0 c0,.slice a1 n1 c1] 26)).alloc (.cells #[.slice none 0 0,.slice none 0 0] 26)).alloc (.cells #[.slice none 0 0,.slice none 0 0] 26)=W at A0 X0 ⊢
 go_loopw [6] (fun i wr=>∃ (k:Nat) (v0:Value),k≤n0∧i=.int .i64 k∧Hid (Boxes wr w.heap.size (.slice a0 n0 c0) (.slice a1 n1 c1) v0 (.slice none 0 0))∧Hid (wr.ownsRow (w.heap.size+3) 100 2 v0 (dp f0 t k).length ((dp f0 t k).flatMap bM))∧Hid (Below w.heap.size w wr)) (fun i _=>n0 - (intOf i).toNat)
 case atStart=>exact ⟨0,_,by omega,rfl,X0.out,World.ownsRow_nil _ _ _ _,A0.out⟩
 case round =>
  obtain ⟨k,v0,hk,rfl,BX,OW,HB⟩:=hrel
  have hlt3:=BX.out.lt
  by_cases hlt:k<n0
  ·obtain ⟨b,off,rfl,hr⟩:=V0.out.resolve_left (by omega)
   obtain ⟨d0,d1⟩:=(hr.2 k hlt).below HB.out hr.1
   clear hr
   have hll:=lK f0 t k
   have k0:=BX.out.a0
   cases hq:((f0 k).name.toList == t.toList) with
   | true =>
    have HQ:=ae hq
    go_wp2
    exact ⟨⟨k+1,v0,by omega,by go_num,BX.out,by show World.ownsRow _ _ _ _ _ _ _;rw [qS HQ.out];exact OW.out,HB.out⟩,by simp [intOf];omega⟩
   | false =>
    have HQ:=ae hq
    obtain ⟨x0,y0⟩:=BX.out.o0
    have D1:=ae ((Below.refl (w.heap.size+3) wr).drew.alloc (by simp;omega) (.cells #[.string (f0 k).name,.string (f0 k).text] 100))
    go_wp2_with fail
    go_region_law (first
     | (refine eR rfl (.tmp 25) (.tmp 31) 23 rfl (w.heap.size+3) 100 i0' (.agg #[.string ⟨#[]⟩,.string ⟨#[]⟩]) 2 32 Tryz.underlying23 hi hy0 hy1 hy2 rfl (by decide) v0 (dp f0 t k).length ((dp f0 t k).flatMap bM) (by simp [Act.eval]) (OW.out.drew.alloc _) ⟨wr.heap.size,0,none⟩ 1 1 (bM (f0 k)) (by simp [Act.eval]) rfl (eI wr.drew _ _ _) (by simp [bM,Value.oneCell']) (by unfold maxLen;omega) (by omega) (by simp<;>omega) ?_;intro v' w2 hown hgrow hnil;obtain ⟨gs,cs,rfl⟩:=dK hown (by omega);have O2:=ae hown;have B2:=ae (Below.grown D1.out hgrow (by simp<;>omega) (fun j e=>(OW.out.lt j e).1));obtain ⟨x2,y2⟩:=(BX.out.below B2.out lr).o0;clear hown hgrow hnil))
    all_goals
     clear x0 y0 k0
     go_wp2
     exact ⟨⟨k+1,_,by omega,by go_num,(BX.out.below B2.out lr).set0 _,by show World.ownsRow _ _ _ _ _ _ _;rw [qT HQ.out,List.length_append,List.flatMap_append];simpa using aS O2.out (by omega) _,(HB.out.trans (B2.out.mono (by omega))).setCell (by simp;omega) _⟩,by simp [intOf];omega⟩
  ·have e:n0=k:=by omega
   subst e
   have k0:=BX.out.a0
   have k1:=BX.out.a1
   go_wp2
   clear k0 k1 hlt hk
   generalize wr=W1 at BX OW HB hlt3 ⊢
   go_loopw [7] (fun i wr=>∃ (k:Nat) (v1:Value) (R:List TR),k≤n1∧i=.int .i64 k∧Hid (Boxes wr w.heap.size (.slice a0 n0 c0) (.slice a1 n1 c1) v0 v1)∧Hid (wr.ownsRow (w.heap.size+3) 100 2 v0 (dp f0 t n0).length ((dp f0 t n0).flatMap bM))∧Hid (TRow wr (w.heap.size+3) v1 R)∧Hid (R.map (·.1)=cZ f1 t k)∧Hid (Below w.heap.size w wr)) (fun i _=>n1 - (intOf i).toNat)
   case atStart=>exact ⟨0,_,[],by omega,rfl,BX.out,OW.out,jI _ _,rfl,HB.out⟩
   case round =>
    clear BX OW HB
    obtain ⟨k,v1,R,hk,rfl,BX,OS,T0,HM,HB⟩:=hrel
    have hlt4:=BX.out.lt
    by_cases hlt:k<n1
    ·obtain ⟨b,off,rfl,hr⟩:=V1.out.resolve_left (by omega)
     obtain ⟨d0,ka,kc,d1,hx⟩:=(hr.2 k hlt).below HB.out lr hr.1
     have HX:=ae hx
     have hbl:=hr.1
     clear hr hx
     have hRl:R.length≤1048576:=by
      have h1:=congrArg List.length HM.out
      have h2:=sA f1 t k
      simp at h1
      omega
     have hft:((f1 k).actN:Int)≤1048576:=by have:=HF.out k hlt;unfold bh at this;omega
     have k1:=BX.out.a1
     have hbh:¬ b=w.heap.size+1+1:=by omega
     have hbh2:¬ w.heap.size+1+1=b:=by omega
     have hbw:b<wr.heap.size:=ll hbl HB.out.size
     cases hq:((f1 k).name.toList == t.toList) with
     | true =>
      have HQ:=ae hq
      go_wp2
      exact ⟨⟨k+1,v1,R,by omega,by go_num,BX.out,OS.out,T0.out,by show _=cZ f1 t (k+1);rw [qU HQ.out];exact HM.out,HB.out⟩,by simp [intOf];omega⟩
     | false =>
      have HQ:=ae hq
      obtain ⟨x1,y1⟩:=BX.out.o1
      have D1:=ae (Below.refl wr.heap.size wr).drew
      go_wp2_with fail
      go_region_law (first
       | (go_simp;go_at_call 80;refine (iE ka (f1 k).actN kc (f1 k).act _ hft (HX.out.below D1.out lr)).mono ?_;rintro e wC ⟨g,c,rfl,hO,hB⟩;have DC:=ae (D1.out.trans (hB.mono (by simp)));have tc0:=(DC.out.cell (p:=⟨b,off+k*2,none⟩) hbw).trans d0;have tc1:=(DC.out.cell (p:=⟨b,off+k*2+1,none⟩) hbw).trans d1;have hgl:=(dn hO).1;have OC:=ae (aT hO (base':=w.heap.size+3) (by simp;omega));have hgl2:wr.heap.size≤g:=(by simpa using hgl);obtain ⟨xC,yC⟩:=(BX.out.below DC.out (by omega)).o1;have kC:=(BX.out.below DC.out (by omega)).a1;have hzC:w.heap.size+1+1<wC.heap.size:=(by have:=(BX.out.below DC.out (by omega)).lt;omega);have hyC:w.heap.size<wC.heap.size:=(by omega);have hxC:b<wC.heap.size:=(by have:=DC.out.size;omega);clear hB hO hgl)
       | (refine eR rfl (.tmp 50) (.tmp 65) 24 rfl (w.heap.size+3) 104 i1' (.agg #[.string ⟨#[]⟩,.slice none 0 0]) 2 40 Tryz.underlying24 hj hz0 hz1 hz2 rfl (by decide) v1 R.length (R.flatMap bu) (by simp [Act.eval]) ((T0.out.below DC.out lr).own.alloc _) ⟨wC.heap.size,0,none⟩ 1 1 (bu (f1 k,g,c)) (by simp [Act.eval]) rfl (eI wC _ _ _) (by simp [bu,Value.oneCell']) (by unfold maxLen;omega) (by omega) (by first | (simp;done) | (simp;omega) | (have:=DC.out.size;simp;omega)) ?_;intro v' w2 hown hgrow hnil;obtain ⟨gs,cs,rfl⟩:=dK hown (by omega);have T2:=ae (T0.out.more (x:=f1 k) (g:=g) (c:=c) (DC.out.alloc DC.out.size _) hgl2 (by omega) (OC.out.alloc _) hown hgrow);have E2:=ae (Below.grown ((DC.out.mono (show w.heap.size+3≤wr.heap.size by omega)).alloc (by have:=DC.out.size;omega) _) hgrow (by have:=DC.out.size;simp;omega) (fun j e=>(T0.out.own.lt j e).1));obtain ⟨x2,y2⟩:=(BX.out.below E2.out lr).o1;have OS2:=ae ((own_below OS.out (DC.out.alloc DC.out.size _) lr).kept hgrow (sB (own_below OS.out (DC.out.alloc DC.out.size (.cells #[.string (f1 k).name,.slice (some ⟨g,0,none⟩) (f1 k).actN c] 104)) lr) ((T0.out.below DC.out lr).own.alloc _) (by decide)));clear hown hgrow hnil))
      all_goals
       clear tc0 tc1 xC yC x1 y1 k1 kC d0 d1
       go_wp2
       exact ⟨⟨k+1,_,R++[(f1 k,g,c)],by omega,by go_num,(BX.out.below E2.out lr).set1 _,aS OS2.out (by omega) _,T2.out.set (by omega) _,by show _=cZ f1 t (k+1);rw [qV HQ.out,List.map_append,HM.out];rfl,(HB.out.trans (E2.out.mono (by omega))).setCell (by simp;omega) _⟩,by simp [intOf];omega⟩
    ·have e:n1=k:=by omega
     subst e
     have k1:=BX.out.a1
     obtain ⟨sa,sc,rfl⟩:=bz OS.out
     obtain ⟨ta,tc,rfl⟩:=bz T0.out.own
     obtain ⟨r0,q0⟩:=BX.out.r0
     obtain ⟨r1,q1⟩:=BX.out.r1
     obtain ⟨m0,_⟩:=BX.out.o0
     obtain ⟨m1,_⟩:=BX.out.o1
     go_wp2
     exact bodyPost_ret (v:=.agg #[.slice sa _ sc,.slice ta _ tc]) (by simp [results,Tryz.results62,go_sem,r0,r1]) rfl ⟨_,_,R,rfl,aS (aS OS.out (by omega) _) (by omega) _,(T0.out.set (by omega) _).set (by omega) _,HM.out,(HB.out.setCell (by simp) _).setCell (by simp) _⟩
end Go.Proofs.YtkophfgkcijjkaaGreatDoor.Vp
