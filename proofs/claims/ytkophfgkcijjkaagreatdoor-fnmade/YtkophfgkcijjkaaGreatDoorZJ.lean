import Derived.OneCell
import Derived.Maps.AppendAt
import Derived.Deep.RegionLaw
import Derived.Test.YtkophfgkcijjkaaGreatDoorZF
set_option maxRecDepth 100000
set_option maxHeartbeats 2000000
namespace Go.Proofs.YtkophfgkcijjkaaGreatDoor.Vp
open RowKit
theorem eH (w:World)(x:Value)(t:TypeId):∀ j u,[x][j]?=some u→(w.alloc (.cells #[x] t)).cell? ((⟨w.heap.size,0,none⟩:Addr).add j)=some u:=by
 intro j u hj
 match j,hj with
 | 0,hj=>simp at hj;subst hj;simp [Addr.add]
theorem eR {P:Program}{w:World}{ops:Array Oper}{o:Oper}{a:Act}{K:Act→World→Prop}{Q:Exit→Act→World→Prop}{E:Prop}(hg:o.guard=none)(s x:Operand)(t:TypeId)
  (ho:o.op=.call { callee:=.builtin .append,args:=#[s,x],argTypes:=#[t,t] })
  (base:Nat) (e:TypeId) (i:TypeInfo) (z:Value) (size bytes:Nat) (ht:P.underlying t=some (.slice e)) (hi:P.info? e=some i) (hz:i.zero=some z)
  (hsize:i.size=size) (hby:i.bytes=bytes) (hzs:z.cells.size=size) (hsz:0<size)
  (v:Value) (n:Nat) (xs:List Value) (hs:a.eval s=v) (hown:w.ownsRow base e size v n xs)
  (ad:Addr) (m c:Nat) (news:List Value) (hx:a.eval x=.slice (some ad) m c) (hl:news.length=m*size) (hnews:∀ j u,news[j]?=some u→w.cell? (ad.add j)=some u) (h1:∀ u∈news,u.oneCell'=true)
  (h63:n+m≤maxLen) (hbytes:(n+m)*bytes≤140737488355328) (hbase:base≤w.heap.size)
  (h:∀ v' w',w'.ownsRow base e size v' (n+m) (xs++news)→w.grownBy w' v.ownBlock→(v'=.slice none 0 0 ↔ v=.slice none 0 0∧m=0)→K (a.put o.dst v') w') :
  if Region.wanted o (yielded ops a.tmps)=true then Oper.wp P o a w K Q else E:=by
 have hw:Region.wanted o (yielded ops a.tmps)=true:=by simp [Region.wanted,hg]
 rw [if_pos hw]
 exact wp_append_own w s x t ho base e i z size bytes ht hi hz hsize hby hzs hsz v n xs hs hown ad m c news hx hl hnews h1 h63 hbytes hbase h
theorem own_below {w w':World}{base B:Nat}{e:TypeId}{size n:Nat}{v:Value}{xs:List Value}(h:w.ownsRow base e size v n xs)(hb:Below B w w')(hB:w.heap.size≤B):w'.ownsRow base e size v n xs :=
 h.kept (row:=none) ⟨hb.os,hb.tape,hb.output,hb.size,fun k hk _=>hb.block k (ll hk hB)⟩ (by cases v.ownBlock<;>simp)
theorem aT {w:World}{base base':Nat}{e:TypeId}{size n:Nat}{v:Value}{xs:List Value}(h:w.ownsRow base e size v n xs)(hb:base'≤base):w.ownsRow base' e size v n xs:=by
 refine ⟨h.1,?_⟩
 rcases h.2 with h | ⟨g,cap,cur,hv,hg,r⟩
 ·exact .inl h
 ·exact .inr ⟨g,cap,cur,hv,Nat.le_trans hb hg,r⟩
theorem gS (W:World)(cs:Array Value)(ty:TypeId)(g j:Nat)(v:Value)(hg:g=W.heap.size)(hv:cs[j]?=some v):(W.alloc (.cells cs ty)).cell? ⟨g,j,none⟩=some v:=by
 subst hg
 simp [hv]
theorem fX {w:World}{base n:Nat}{e:TypeId}{v:Value}{xs:List Value}(h:w.ownsRow base e 1 v n xs)(hn:0<n):∃ g cap,v=.slice (some ⟨g,0,none⟩) n cap:=by
 rcases h.2 with ⟨_,h0⟩ | ⟨g,cap,cur,hv,_⟩
 ·omega
 ·exact ⟨g,cap,hv⟩
def gT (g:Nat→ByteArray)(n:Nat):List Value:=(List.range n).map fun i=>.string (g i)
theorem lD (g:Nat→ByteArray)(n:Nat):gT g (n+1)=gT g n++[.string (g n)]:=by simp [gT,List.range_succ]
theorem rV {w:World}{base n:Nat}{e:TypeId}{v:Value}{g:Nat→ByteArray}(h:w.ownsRow base e 1 v n (gT g n)):∃ a cap,v=.slice a n cap∧SlStr w a n g:=by
 rcases h.2 with ⟨rfl,rfl⟩ | ⟨b,cap,cur,rfl,hb,hg,_⟩
 ·exact ⟨none,0,rfl,.inl rfl⟩
 ·refine ⟨_,cap,rfl,.inr ⟨b,0,rfl,lt_of_block hg,fun i hi=>?_⟩⟩
  have:=h.cells (g:=b) rfl i (.string (g i)) (by simp [gT,hi])
  rw [Nat.zero_add]
  have ha:(⟨b,0,none⟩:Addr).add i=⟨b,i,none⟩:=by
   unfold Addr.add
   split<;>simp_all
  rwa [ha] at this
theorem jV (b off n c0:Nat)(v1:Value)(a1:Option Addr)(n1 c1:Nat)(hv1:v1=.slice a1 n1 c1)(f:Nat→Source)(w:World)(hn:(n:Int)≤1048576)(hr:RowSource w b off n f) :
  Calls Tryz.prog 65 #[.agg #[.slice (some ⟨b,off,none⟩) n c0,v1]] w fun e w'=>∃ a cap,e=.returned (.slice a n cap)∧SlStr w' a n (fun i=>(f i).name)∧Below w.heap.size w w':=by
 subst hv1
 have HR:=ae hr
 clear hr
 obtain ⟨i0',hi,hy0,hy1,hy2⟩:=info_parts ec
 have A0:=ae ((Below.refl w.heap.size w).alloc lr (.cells #[.slice (some ⟨b,off,none⟩) n c0,.slice a1 n1 c1] 26))
 go_enter Tryz.func65,Tryz.ntmps65
 go_wp2
 go_loopw [3,9] (fun v i wr=>∃ k:Nat,k≤n∧i=.int .i64 k∧Hid (wr.ownsRow w.heap.size 9 1 v k (gT (fun i=>(f i).name) k))∧Below w.heap.size w wr) (fun _ i _=>n - (intOf i).toNat)
 case atStart=>exact ⟨0,by omega,rfl,World.ownsRow_nil _ _ _ _,A0.out⟩
 case round =>
  obtain ⟨k,hk,rfl,OW,hB⟩:=hrel
  have HB:=ae hB
  have hsz:w.heap.size≤wr.heap.size:=hB.size
  clear hB
  by_cases hlt:k<n
  ·obtain ⟨d0,d1⟩:=(HR.out.2 k hlt).below HB.out HR.out.1
   go_wp2_with (at_builtin;refine wpList_append_own _ rfl (.tmp 13) (.tmp 16) 39 rfl w.heap.size 9 i0' (.string ⟨#[]⟩) 1 16 Tryz.underlying39 hi hy0 hy1 hy2 rfl (by decide) _ k (gT (fun i=>(f i).name) k) (by simp [Act.eval]) ((OW.out.alloc _).alloc _) ⟨wr.heap.size+1,0,none⟩ 1 1 [.string (f k).name] (by simp [Act.eval]) rfl (by rw [show wr.heap.size+1=(wr.alloc (.cells #[.string (f k).name,.string (f k).text] 100)).heap.size by simp];exact eH _ _ _) (by simp [Value.oneCell']) (by unfold maxLen;omega) (by omega) (by simp;omega) ?_;intro v' w2 hown hgrow hnil;have O2:=ae hown;have B2:=ae (Below.grown ((HB.out.alloc hsz (.cells #[.string (f k).name,.string (f k).text] 100)).alloc (by simp;omega) (.cells #[.string (f k).name] 9)) hgrow (by simp;omega) (fun j e=>(OW.out.lt j e).1));clear hown hgrow hnil)
   exact ⟨⟨k+1,by omega,by go_num,by show World.ownsRow _ _ _ _ _ _ _;rw [lD];exact O2.out,B2.out⟩,by simp [intOf];omega⟩
  ·have e:k=n:=by omega
   subst e
   obtain ⟨a,cap,rfl,hsl⟩:=rV OW.out
   have HSl:=ae hsl
   clear hsl
   go_wp2
   go_ret
   exact ⟨a,cap,rfl,HSl.out,HB.out⟩
theorem jW (a0:Option Addr)(c0:Nat)(a1:Option Addr)(n1 c1:Nat)(g:Nat→ByteArray)(w:World) :
  Calls Tryz.prog 65 #[.agg #[.slice a0 0 c0,.slice a1 n1 c1]] w fun e w'=>∃ a cap,e=.returned (.slice a 0 cap)∧SlStr w' a 0 g∧Below w.heap.size w w':=by
 have A0:=ae ((Below.refl w.heap.size w).alloc lr (.cells #[.slice a0 0 c0,.slice a1 n1 c1] 26))
 go_enter Tryz.func65,Tryz.ntmps65
 go_wp2
 go_loopw [3,9] (fun v i wr=>v=.slice none 0 0∧i=.int .i64 0∧Below w.heap.size w wr) (fun _ _ _=>0)
 case atStart=>exact ⟨rfl,rfl,A0.out⟩
 case round =>
  obtain ⟨rfl,rfl,hB⟩:=hrel
  have HB:=ae hB
  clear hB
  go_wp2
  go_ret
  exact ⟨none,0,rfl,.inl rfl,HB.out⟩
theorem jX (a0:Option Addr)(n c0:Nat)(a1:Option Addr)(n1 c1:Nat)(f:Nat→Source)(w:World)(hn:(n:Int)≤1048576)(hr:SlSource w a0 n f) :
  Calls Tryz.prog 65 #[.agg #[.slice a0 n c0,.slice a1 n1 c1]] w fun e w'=>∃ a cap,e=.returned (.slice a n cap)∧SlStr w' a n (fun i=>(f i).name)∧Below w.heap.size w w':=by
 rcases hr with rfl | ⟨b,off,rfl,hr⟩
 ·exact jW a0 c0 a1 n1 c1 _ w
 ·exact jV b off n c0 _ a1 n1 c1 rfl f w hn hr
theorem jY (b off n c0:Nat)(v1:Value)(a1:Option Addr)(n1 c1:Nat)(hv1:v1=.slice a1 n1 c1)(f:Nat→Target)(w:World)(hn:(n:Int)≤1048576)(hr:RowTarget w b off n f) :
  Calls Tryz.prog 66 #[.agg #[v1,.slice (some ⟨b,off,none⟩) n c0]] w fun e w'=>∃ a cap,e=.returned (.slice a n cap)∧SlStr w' a n (fun i=>(f i).name)∧Below w.heap.size w w':=by
 subst hv1
 have HR:=ae hr
 clear hr
 obtain ⟨i0',hi,hy0,hy1,hy2⟩:=info_parts ec
 have A0:=ae ((Below.refl w.heap.size w).alloc lr (.cells #[.slice a1 n1 c1,.slice (some ⟨b,off,none⟩) n c0] 26))
 go_enter Tryz.func66,Tryz.ntmps66
 go_wp2
 go_loopw [3,9] (fun v i wr=>∃ k:Nat,k≤n∧i=.int .i64 k∧Hid (wr.ownsRow w.heap.size 9 1 v k (gT (fun i=>(f i).name) k))∧Below w.heap.size w wr) (fun _ i _=>n - (intOf i).toNat)
 case atStart=>exact ⟨0,by omega,rfl,World.ownsRow_nil _ _ _ _,A0.out⟩
 case round =>
  obtain ⟨k,hk,rfl,OW,hB⟩:=hrel
  have HB:=ae hB
  have hsz:w.heap.size≤wr.heap.size:=hB.size
  clear hB
  by_cases hlt:k<n
  ·obtain ⟨d0,ka,kc,d1,_⟩:=(HR.out.2 k hlt).below HB.out lr HR.out.1
   go_wp2_with (at_builtin;refine wpList_append_own _ rfl (.tmp 13) (.tmp 16) 39 rfl w.heap.size 9 i0' (.string ⟨#[]⟩) 1 16 Tryz.underlying39 hi hy0 hy1 hy2 rfl (by decide) _ k (gT (fun i=>(f i).name) k) (by simp [Act.eval]) ((OW.out.alloc _).alloc _) ⟨wr.heap.size+1,0,none⟩ 1 1 [.string (f k).name] (by simp [Act.eval]) rfl (by rw [show wr.heap.size+1=(wr.alloc (.cells #[.string (f k).name,.slice ka (f k).actN kc] 104)).heap.size by simp];exact eH _ _ _) (by simp [Value.oneCell']) (by unfold maxLen;omega) (by omega) (by simp;omega) ?_;intro v' w2 hown hgrow hnil;have O2:=ae hown;have B2:=ae (Below.grown ((HB.out.alloc hsz (.cells #[.string (f k).name,.slice ka (f k).actN kc] 104)).alloc (by simp;omega) (.cells #[.string (f k).name] 9)) hgrow (by simp;omega) (fun j e=>(OW.out.lt j e).1));clear hown hgrow hnil)
   exact ⟨⟨k+1,by omega,by go_num,by show World.ownsRow _ _ _ _ _ _ _;rw [lD];exact O2.out,B2.out⟩,by simp [intOf];omega⟩
  ·have e:k=n:=by omega
   subst e
   obtain ⟨a,cap,rfl,hsl⟩:=rV OW.out
   have HSl:=ae hsl
   clear hsl
   go_wp2
   go_ret
   exact ⟨a,cap,rfl,HSl.out,HB.out⟩
theorem jZ (a0:Option Addr)(c0:Nat)(a1:Option Addr)(n1 c1:Nat)(g:Nat→ByteArray)(w:World) :
  Calls Tryz.prog 66 #[.agg #[.slice a1 n1 c1,.slice a0 0 c0]] w fun e w'=>∃ a cap,e=.returned (.slice a 0 cap)∧SlStr w' a 0 g∧Below w.heap.size w w':=by
 have A0:=ae ((Below.refl w.heap.size w).alloc lr (.cells #[.slice a1 n1 c1,.slice a0 0 c0] 26))
 go_enter Tryz.func66,Tryz.ntmps66
 go_wp2
 go_loopw [3,9] (fun v i wr=>v=.slice none 0 0∧i=.int .i64 0∧Below w.heap.size w wr) (fun _ _ _=>0)
 case atStart=>exact ⟨rfl,rfl,A0.out⟩
 case round =>
  obtain ⟨rfl,rfl,hB⟩:=hrel
  have HB:=ae hB
  clear hB
  go_wp2
  go_ret
  exact ⟨none,0,rfl,.inl rfl,HB.out⟩
theorem j7 (a0:Option Addr)(n c0:Nat)(a1:Option Addr)(n1 c1:Nat)(f:Nat→Target)(w:World)(hn:(n:Int)≤1048576)(hr:SlTarget w a0 n f) :
  Calls Tryz.prog 66 #[.agg #[.slice a1 n1 c1,.slice a0 n c0]] w fun e w'=>∃ a cap,e=.returned (.slice a n cap)∧SlStr w' a n (fun i=>(f i).name)∧Below w.heap.size w w':=by
 rcases hr with rfl | ⟨b,off,rfl,hr⟩
 ·exact jZ a0 c0 a1 n1 c1 _ w
 ·exact jY b off n c0 _ a1 n1 c1 rfl f w hn hr
def rW:aD:={ name:=⟨#[]⟩,kind:=0,code:=0,text:=⟨#[]⟩,actN:=0,act:=fun _=>⟨0,⟨#[]⟩,0⟩,linksN:=0,links:=fun _=>⟨⟨#[]⟩,false,false,0⟩ }
def dF (L:List aD)(i:Nat):aD:=L.getD i rW
structure DBox (w:World)(b:Nat)(v0 v1 v2 v3 v4 v5:Value):Prop where
 lt:b<w.heap.size
 c0:w.cell? ⟨b,0,none⟩=some v0∧w.frozen? ⟨b,0,none⟩=false
 c1:w.cell? ⟨b,1,none⟩=some v1∧w.frozen? ⟨b,1,none⟩=false
 c2:w.cell? ⟨b,2,none⟩=some v2∧w.frozen? ⟨b,2,none⟩=false
 c3:w.cell? ⟨b,3,none⟩=some v3∧w.frozen? ⟨b,3,none⟩=false
 c4:w.cell? ⟨b,4,none⟩=some v4∧w.frozen? ⟨b,4,none⟩=false
 c5:w.cell? ⟨b,5,none⟩=some v5∧w.frozen? ⟨b,5,none⟩=false
theorem DBox.blk {w w':World}{b:Nat}{v0 v1 v2 v3 v4 v5:Value}(h:DBox w b v0 v1 v2 v3 v4 v5)(hz:w.heap.size≤w'.heap.size)(e:w'.heap[b]?=w.heap[b]?):DBox w' b v0 v1 v2 v3 v4 v5 :=
 have c:∀ o,w'.cell? ⟨b,o,none⟩=w.cell? ⟨b,o,none⟩:=fun o=>World.cell?_of_block (a:=⟨b,o,none⟩) e
 have f:∀ o,w'.frozen? ⟨b,o,none⟩=w.frozen? ⟨b,o,none⟩:=fun o=>World.frozen?_of_block (a:=⟨b,o,none⟩) e
 ⟨ll h.lt hz,⟨(c 0).trans h.c0.1,(f 0).trans h.c0.2⟩,⟨(c 1).trans h.c1.1,(f 1).trans h.c1.2⟩,⟨(c 2).trans h.c2.1,(f 2).trans h.c2.2⟩,⟨(c 3).trans h.c3.1,(f 3).trans h.c3.2⟩,⟨(c 4).trans h.c4.1,(f 4).trans h.c4.2⟩,⟨(c 5).trans h.c5.1,(f 5).trans h.c5.2⟩⟩
theorem DBox.below {w w':World}{b B:Nat}{v0 v1 v2 v3 v4 v5:Value}(h:DBox w b v0 v1 v2 v3 v4 v5)(hb:Below B w w')(hB:b<B):DBox w' b v0 v1 v2 v3 v4 v5:=h.blk hb.size (hb.block b hB)
theorem DBox.far {w:World}{b:Nat}{v0 v1 v2 v3 v4 v5:Value}(h:DBox w b v0 v1 v2 v3 v4 v5){p:Addr}(hp:p.block≠b)(v:Value):DBox (w.setCell p v) b v0 v1 v2 v3 v4 v5:=h.blk (by simp) (Below.heap_setCell _ _ _ _ (fun e=>hp e.symm))
theorem DBox.set1 {w:World}{b:Nat}{v0 v1 v2 v3 v4 v5:Value}(h:DBox w b v0 v1 v2 v3 v4 v5)(v:Value):DBox (w.setCell ⟨b,1,none⟩ v) b v0 v v2 v3 v4 v5 :=
 ⟨by simpa using h.lt,⟨(World.cell?_setCell_other _ _ _ _ (by simp)).trans h.c0.1,by simpa using h.c0.2⟩,⟨World.cell?_setCell_same' _ _ _ (by rw [h.c1.1];rfl),by simpa using h.c1.2⟩,⟨(World.cell?_setCell_other _ _ _ _ (by simp)).trans h.c2.1,by simpa using h.c2.2⟩,⟨(World.cell?_setCell_other _ _ _ _ (by simp)).trans h.c3.1,by simpa using h.c3.2⟩,⟨(World.cell?_setCell_other _ _ _ _ (by simp)).trans h.c4.1,by simpa using h.c4.2⟩,⟨(World.cell?_setCell_other _ _ _ _ (by simp)).trans h.c5.1,by simpa using h.c5.2⟩⟩
theorem DBox.set2 {w:World}{b:Nat}{v0 v1 v2 v3 v4 v5:Value}(h:DBox w b v0 v1 v2 v3 v4 v5)(v:Value):DBox (w.setCell ⟨b,2,none⟩ v) b v0 v1 v v3 v4 v5 :=
 ⟨by simpa using h.lt,⟨(World.cell?_setCell_other _ _ _ _ (by simp)).trans h.c0.1,by simpa using h.c0.2⟩,⟨(World.cell?_setCell_other _ _ _ _ (by simp)).trans h.c1.1,by simpa using h.c1.2⟩,⟨World.cell?_setCell_same' _ _ _ (by rw [h.c2.1];rfl),by simpa using h.c2.2⟩,⟨(World.cell?_setCell_other _ _ _ _ (by simp)).trans h.c3.1,by simpa using h.c3.2⟩,⟨(World.cell?_setCell_other _ _ _ _ (by simp)).trans h.c4.1,by simpa using h.c4.2⟩,⟨(World.cell?_setCell_other _ _ _ _ (by simp)).trans h.c5.1,by simpa using h.c5.2⟩⟩
theorem DBox.set3 {w:World}{b:Nat}{v0 v1 v2 v3 v4 v5:Value}(h:DBox w b v0 v1 v2 v3 v4 v5)(v:Value):DBox (w.setCell ⟨b,3,none⟩ v) b v0 v1 v2 v v4 v5 :=
 ⟨by simpa using h.lt,⟨(World.cell?_setCell_other _ _ _ _ (by simp)).trans h.c0.1,by simpa using h.c0.2⟩,⟨(World.cell?_setCell_other _ _ _ _ (by simp)).trans h.c1.1,by simpa using h.c1.2⟩,⟨(World.cell?_setCell_other _ _ _ _ (by simp)).trans h.c2.1,by simpa using h.c2.2⟩,⟨World.cell?_setCell_same' _ _ _ (by rw [h.c3.1];rfl),by simpa using h.c3.2⟩,⟨(World.cell?_setCell_other _ _ _ _ (by simp)).trans h.c4.1,by simpa using h.c4.2⟩,⟨(World.cell?_setCell_other _ _ _ _ (by simp)).trans h.c5.1,by simpa using h.c5.2⟩⟩
theorem DBox.set4 {w:World}{b:Nat}{v0 v1 v2 v3 v4 v5:Value}(h:DBox w b v0 v1 v2 v3 v4 v5)(v:Value):DBox (w.setCell ⟨b,4,none⟩ v) b v0 v1 v2 v3 v v5 :=
 ⟨by simpa using h.lt,⟨(World.cell?_setCell_other _ _ _ _ (by simp)).trans h.c0.1,by simpa using h.c0.2⟩,⟨(World.cell?_setCell_other _ _ _ _ (by simp)).trans h.c1.1,by simpa using h.c1.2⟩,⟨(World.cell?_setCell_other _ _ _ _ (by simp)).trans h.c2.1,by simpa using h.c2.2⟩,⟨(World.cell?_setCell_other _ _ _ _ (by simp)).trans h.c3.1,by simpa using h.c3.2⟩,⟨World.cell?_setCell_same' _ _ _ (by rw [h.c4.1];rfl),by simpa using h.c4.2⟩,⟨(World.cell?_setCell_other _ _ _ _ (by simp)).trans h.c5.1,by simpa using h.c5.2⟩⟩
theorem DBox.set5 {w:World}{b:Nat}{v0 v1 v2 v3 v4 v5:Value}(h:DBox w b v0 v1 v2 v3 v4 v5)(v:Value):DBox (w.setCell ⟨b,5,none⟩ v) b v0 v1 v2 v3 v4 v :=
 ⟨by simpa using h.lt,⟨(World.cell?_setCell_other _ _ _ _ (by simp)).trans h.c0.1,by simpa using h.c0.2⟩,⟨(World.cell?_setCell_other _ _ _ _ (by simp)).trans h.c1.1,by simpa using h.c1.2⟩,⟨(World.cell?_setCell_other _ _ _ _ (by simp)).trans h.c2.1,by simpa using h.c2.2⟩,⟨(World.cell?_setCell_other _ _ _ _ (by simp)).trans h.c3.1,by simpa using h.c3.2⟩,⟨(World.cell?_setCell_other _ _ _ _ (by simp)).trans h.c4.1,by simpa using h.c4.2⟩,⟨World.cell?_setCell_same' _ _ _ (by rw [h.c5.1];rfl),by simpa using h.c5.2⟩⟩
theorem mU (w:World)(v0 v1 v2 v3 v4 v5:Value)(t:TypeId):DBox (w.alloc (.cells #[v0,v1,v2,v3,v4,v5] t)) w.heap.size v0 v1 v2 v3 v4 v5:=by
 refine ⟨by simp,?_,?_,?_,?_,?_,?_⟩<;>simp
theorem tN (w:World)(v0 v1 v2 v3 v4 v5 u0 u1 u2 u3 u4 u5:Value)(t:TypeId):DBox ((w.alloc (.cells #[v0,v1,v2,v3,v4,v5] t)).alloc (.cells #[u0,u1,u2,u3,u4,u5] t)) w.heap.size v0 v1 v2 v3 v4 v5∧DBox ((w.alloc (.cells #[v0,v1,v2,v3,v4,v5] t)).alloc (.cells #[u0,u1,u2,u3,u4,u5] t)) (w.heap.size+1) u0 u1 u2 u3 u4 u5:=by
 have hz:(w.alloc (.cells #[v0,v1,v2,v3,v4,v5] t)).heap.size=w.heap.size+1:=by simp
 refine ⟨(mU w v0 v1 v2 v3 v4 v5 t).below ((Below.refl (w.heap.size+1) _).alloc (by omega) _) (Nat.lt_succ_self _),?_⟩
 have:=mU (w.alloc (.cells #[v0,v1,v2,v3,v4,v5] t)) u0 u1 u2 u3 u4 u5 t
 rw [hz] at this
 exact this
end Go.Proofs.YtkophfgkcijjkaaGreatDoor.Vp
