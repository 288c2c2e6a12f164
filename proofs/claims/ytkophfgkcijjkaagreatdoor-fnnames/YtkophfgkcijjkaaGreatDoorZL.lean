import Derived.Test.YtkophfgkcijjkaaGreatDoorZE
import Derived.OneCell
import Derived.OwnWalk
import Derived.Maps.AppendAt
import Derived.Deep.RegionLaw
set_option maxRecDepth 100000
set_option maxHeartbeats 4000000
namespace Go.Proofs.YtkophfgkcijjkaaGreatDoor.Vp
theorem bq {P:Program}{w:World}{r:Array Oper}{o:Oper}{a:Act}{K:Act->World->Prop}{Q:Exit->Act->World->Prop}{E:Prop}(O:o.guard=none)(s x:Operand)(t:TypeId)
  (J:o.op=.call { callee:=.builtin .append,args:=#[s,x],argTypes:=#[t,t] })
  (b:Nat) (e:TypeId) (i:TypeInfo) (z:Value) (size d:Nat) (U:P.underlying t=some (.slice e)) (hi:P.info? e=some i) (hz:i.zero=some z)
  (q:i.size=size) (D:i.bytes=d) (G:z.cells.size=size) (H:0<size)
  (v:Value) (n:Nat) (A:List Value) (R:a.eval s=v) (y:w.ownsRow b e size v n A)
  (B:Addr) (m c:Nat) (news:List Value) (N:a.eval x=.slice (some B) m c) (W:news.length=m*size) (l:∀ j u,news[j]?=some u->w.cell? (B.add j)=some u) (M:∀ u∈news,u.oneCell'=true)
  (C:n+m<=maxLen) (g:(n+m)*d<=140737488355328) (p:b<=w.heap.size)
  (h:∀ f k,k.ownsRow b e size f (n+m) (A++news)->w.grownBy k v.ownBlock->(f.ownBlock=v.ownBlock∨f.ownBlock=some w.heap.size)->K (a.put o.dst f) k) :
  if Region.wanted o (yielded r a.tmps)=true then Oper.wp P o a w K Q else E:=by
 have S:Region.wanted o (yielded r a.tmps)=true:=by simp[Region.wanted,O]
 rw[if_pos S];obtain⟨f,k,T,V,I,h4,L⟩:=run_append_own_at (P:=P) w b t o.type e i z size d U hi hz q D G H v n A y B m c news W l M C g p;unfold Oper.wp execOp;simp only[J,resolve,invoke,builtin,Sem.run_bind,Sem.run_pure,Result.andThen_ok,List.map_toArray,List.map_cons,List.map_nil,R,N,T];exact h f k V I L
theorem aN {P:Program}(w:World){r:Array Oper}{rest:List Oper}{o:Oper}{a:Act}{Q:Exit->Act->World->Prop}(N:o.guard=none)(s x:Operand)(t:TypeId)
  (J:o.op=.call { callee:=.builtin .append,args:=#[s,x],argTypes:=#[t,t] })
  (b:Nat) (e:TypeId) (i:TypeInfo) (z:Value) (size d:Nat) (S:P.underlying t=some (.slice e)) (hi:P.info? e=some i) (hz:i.zero=some z)
  (q:i.size=size) (D:i.bytes=d) (E:z.cells.size=size) (G:0<size)
  (v:Value) (n:Nat) (A:List Value) (O:a.eval s=v) (y:w.ownsRow b e size v n A)
  (B:Addr) (m c:Nat) (news:List Value) (M:a.eval x=.slice (some B) m c) (U:news.length=m*size) (l:∀ j u,news[j]?=some u->w.cell? (B.add j)=some u) (L:∀ u∈news,u.oneCell'=true)
  (C:n+m<=maxLen) (g:(n+m)*d<=140737488355328) (p:b<=w.heap.size)
  (h:∀ f k,k.ownsRow b e size f (n+m) (A++news)->w.grownBy k v.ownBlock->(f.ownBlock=v.ownBlock∨f.ownBlock=some w.heap.size)->wpList P r Q rest (a.put o.dst f) k) :
  wpList P r Q (o :: rest) a w:=by
 refine wpList_plain N fun K' H=>?_;obtain⟨f,k,R,T,I,h4,K⟩:=run_append_own_at (P:=P) w b t o.type e i z size d S hi hz q D E G v n A y B m c news U l L C g p;unfold Oper.wp execOp;simp only[J,resolve,invoke,builtin,Sem.run_bind,Sem.run_pure,Result.andThen_ok,List.map_toArray,List.map_cons,List.map_nil,O,M,R];exact H _ _ (h f k T I K)
end Go.Proofs.YtkophfgkcijjkaaGreatDoor.Vp
namespace Go.Proofs.YtkophfgkcijjkaaGreatDoor.Vp
open RowKit
def bY (g:Nat->ByteArray):Nat->Bool
 | 0=>true
 | k+1=>bY g k && aw (g k)
theorem oQ {g:Nat->ByteArray}{k n:Nat}(h:k<=n)(hn:bY g n=true):bY g k=true:=by
 induction n with
 | zero =>
  obtain rfl:k=0:=by omega
  exact hn
 | succ m b =>
  by_cases e:k=m+1
  ·subst e;exact hn
  ·simp only[bY,Bool.and_eq_true] at hn
   exact b (by omega) hn.1
theorem jE {g:Nat->ByteArray}{k n:Nat}(h:k<n)(b:aw (g k)=false):bY g n=false:=by
 cases e:bY g n with
 | false=>rfl
 | true =>have c:=oQ (show k+1<=n by omega) e;simp[bY,b] at c
def bP (g:Nat->ByteArray):Nat->Bool
 | 0=>true
 | 1=>true
 | k+2=>bP g (k+1) && Op.bytesLess (g k).toList (g (k+1)).toList
theorem fu {g:Nat->ByteArray}{k n:Nat}(h:k<=n)(hn:bP g n=true):bP g k=true:=by
 induction n with
 | zero =>
  obtain rfl:k=0:=by omega
  exact hn
 | succ m b =>
  by_cases e:k=m+1
  ·subst e;exact hn
  ·cases m with
   | zero =>
    obtain rfl:k=0:=by omega
    rfl
   | succ j =>simp only[bP,Bool.and_eq_true] at hn;exact b (by omega) hn.1
theorem kz {g:Nat->ByteArray}{k n:Nat}(h:k+1<n)(b:Op.bytesLess (g k).toList (g (k+1)).toList=false):bP g n=false:=by
 cases e:bP g n with
 | false=>rfl
 | true =>have c:=fu (show k+2<=n by omega) e;simp[bP,b] at c
theorem dL (w:World)(x:Value)(t:TypeId):∀ j u,[x][j]?=some u->(w.alloc (.cells #[x] t)).cell? ((⟨w.heap.size,0,none⟩:Addr).add j)=some u:=by
 intro j u b;match j,b with
 | 0,b=>simp at b;subst b;simp[Addr.add]
theorem cW {P:Program}{w:World}{p:Array Oper}{o:Oper}{a:Act}{K:Act->World->Prop}{Q:Exit->Act->World->Prop}{E:Prop}(M:o.guard=none)(s x:Operand)(t:TypeId)
  (I:o.op=.call { callee:=.builtin .append,args:=#[s,x],argTypes:=#[t,t] })
  (b:Nat) (e:TypeId) (i:TypeInfo) (z:Value) (size d:Nat) (R:P.underlying t=some (.slice e)) (hi:P.info? e=some i) (hz:i.zero=some z)
  (l:i.size=size) (D:i.bytes=d) (G:z.cells.size=size) (H:0<size)
  (v:Value) (n:Nat) (A:List Value) (N:a.eval s=v) (r:w.ownsRow b e size v n A)
  (B:Addr) (m c:Nat) (news:List Value) (L:a.eval x=.slice (some B) m c) (S:news.length=m*size) (g:∀ j u,news[j]?=some u->w.cell? (B.add j)=some u) (J:∀ u∈news,u.oneCell'=true)
  (C:n+m<=maxLen) (f:(n+m)*d<=140737488355328) (k:b<=w.heap.size)
  (h:∀ y q,q.ownsRow b e size y (n+m) (A++news)->w.grownBy q v.ownBlock->(y=.slice none 0 0 ↔ v=.slice none 0 0/\m=0)->K (a.put o.dst y) q) :
  if Region.wanted o (yielded p a.tmps)=true then Oper.wp P o a w K Q else E:=by
 have O:Region.wanted o (yielded p a.tmps)=true:=by simp[Region.wanted,M]
 rw[if_pos O];exact wp_append_own w s x t I b e i z size d R hi hz l D G H v n A N r B m c news L S g J C f k h
theorem own_below {w c:World}{b B:Nat}{e:TypeId}{size n:Nat}{v:Value}{d:List Value}(h:w.ownsRow b e size v n d)(hb:Below B w c)(f:w.heap.size<=B):c.ownsRow b e size v n d :=
 h.kept (row:=none) ⟨hb.os,hb.tape,hb.output,hb.size,fun k g _=>hb.block k (lj g f)⟩ (by cases v.ownBlock<;>simp)
theorem aB {w:World}{b base':Nat}{e:TypeId}{size n:Nat}{v:Value}{c:List Value}(h:w.ownsRow b e size v n c)(hb:base'<=b):w.ownsRow base' e size v n c:=by
 refine⟨h.1,?_⟩;rcases h.2 with h | ⟨g,cap,d,f,i,r⟩
 ·exact .inl h
 ·exact .inr ⟨g,cap,d,f,Nat.le_trans hb i,r⟩
theorem iU (W:World)(b:Array Value)(ty:TypeId)(g j:Nat)(v:Value)(c:g=W.heap.size)(d:b[j]?=some v):(W.alloc (.cells b ty)).cell? ⟨g,j,none⟩=some v:=by subst c;simp[d]
theorem fJ {w:World}{b n:Nat}{e:TypeId}{v:Value}{d:List Value}(h:w.ownsRow b e 1 v n d)(hn:0<n):∃ g cap,v=.slice (some ⟨g,0,none⟩) n cap:=by
 rcases h.2 with ⟨_,h0⟩ | ⟨g,cap,cur,c,_⟩
 ·omega
 ·exact⟨g,cap,c⟩
theorem rH (w:World)(e:TypeId)(size:Nat):(w.alloc (.cells #[] e)).ownsRow w.heap.size e size (.slice (some ⟨w.heap.size,0,none⟩) 0 0) 0 [] :=
 ⟨by simp,.inr ⟨w.heap.size,0,#[],rfl,Nat.le_refl _,heap_alloc_new w _,Nat.le_refl _,by unfold maxLen;omega,by simp,by simp⟩⟩
def bK (f:Nat->ar)(n:Nat):Bool:=decide ((dy f n).1=0)
theorem dT {f:Nat->ar}{n:Nat}(h:bK f n=true):1<=n/\n<=400/\aG (aZ f) n=-1:=by
 have b:(dy f n).1=0:=of_decide_eq_true h;unfold dy at b;split at b
 ·simp at b
 ·rename_i h2
  refine⟨by omega,by omega,?_⟩;split at b
  ·simp at b
  ·rename_i c
   exact Classical.byContradiction fun d=>c d
theorem eX {f:Nat->ar}{n:Nat}(h:bK f n=true):∀ p,p<n->(f p).linksN<=200:=by
 intro p d;have c:=eG (dT h).2.2 p d;simp only[aZ,Bool.and_eq_true,kindOk] at c;obtain⟨_,b⟩:=c;split at b
 ·simp[aT] at b
  omega
 ·split at b
  ·simp[aT] at b
   omega
  ·split at b
   ·simp[cj] at b
    omega
   ·simp at b
theorem ny {f:Nat->ar}{n:Nat}(h:bK f n=true):∀ p,p<n->∀ j,j<(f p).linksN->((f p).links j).ask=true->0<=((f p).links j).at_/\((f p).links j).at_.toNat<p/\(f ((f p).links j).at_.toNat).name.toList=((f p).links j).name.toList:=by
 intro p g j o i;have d:=eG (dT h).2.2 p g;simp only[aZ,Bool.and_eq_true,kindOk] at d;obtain⟨_,b⟩:=d;have m:bQ f p (f p) (f p).linksN=true:=by
  split at b
  ·simp[aT] at b
   omega
  ·split at b
   ·simp[aT] at b
    omega
   ·split at b
    ·simp only[cj,Bool.and_eq_true] at b
     exact b.2
    ·simp at b
 have c:=lI m j o;simp only[eC,i,if_true,Bool.and_eq_true,decide_eq_true_eq,beq_iff_eq] at c;obtain⟨_,⟨⟨_,k⟩,h5⟩,l⟩:=c;exact⟨k,by omega,l⟩
theorem lK {f:Nat->ar}{p n:Nat}(h:aS f p n=true):∀ i,i<n->(f i).name.toList≠(f p).name.toList:=by
 induction n with
 | zero=>intro i hi;omega
 | succ n b =>
  simp only[aS,Bool.and_eq_true,Bool.not_eq_true',beq_eq_false_iff_ne] at h;intro i hi;by_cases e:i=n
  ·subst e;exact h.2
  ·exact b h.1 i (by omega)
theorem tX {f:Nat->ar}{n:Nat}(h:bK f n=true):∀ i j,i<n->j<n->(f i).name.toList=(f j).name.toList->i=j:=by
 have b:(dy f n).1=0:=of_decide_eq_true h;have l:aG (fun p=>aS f p p) n=-1:=by
  unfold dy at b;split at b
  ·simp at b
  ·split at b
   ·simp at b
   ·split at b
    ·simp at b
    ·rename_i d
     exact Classical.byContradiction fun k=>d k
 have d:=eG l;intro i j hi g e;rcases Nat.lt_trichotomy i j with c | rfl | c
 ·exact absurd e (lK (d j g) i c)
 ·rfl
 ·exact absurd e.symm (lK (d i hi) j c)
def fw:ar:={ name:=⟨#[]⟩,kind:=0,code:=0,text:=⟨#[]⟩,actN:=0,act:=fun _=>⟨0,⟨#[]⟩,0⟩,linksN:=0,links:=fun _=>⟨⟨#[]⟩,false,false,0⟩ }
def dF (L:List ar)(i:Nat):ar:=L.getD i fw
def gL (f:Nat->ar)(t:ByteArray)(n:Nat):Int:=aG (fun i=>!((f i).name.toList == t.toList)) n
structure DBox (w:World)(b:Nat)(v0 v1 v2 v3 v4 v5:Value):Prop where
 lt:b<w.heap.size
 c0:w.cell? ⟨b,0,none⟩=some v0/\w.frozen? ⟨b,0,none⟩=false
 c1:w.cell? ⟨b,1,none⟩=some v1/\w.frozen? ⟨b,1,none⟩=false
 c2:w.cell? ⟨b,2,none⟩=some v2/\w.frozen? ⟨b,2,none⟩=false
 c3:w.cell? ⟨b,3,none⟩=some v3/\w.frozen? ⟨b,3,none⟩=false
 c4:w.cell? ⟨b,4,none⟩=some v4/\w.frozen? ⟨b,4,none⟩=false
 c5:w.cell? ⟨b,5,none⟩=some v5/\w.frozen? ⟨b,5,none⟩=false
theorem DBox.blk {w w':World}{b:Nat}{d j k l i g:Value}(h:DBox w b d j k l i g)(hz:w.heap.size<=w'.heap.size)(e:w'.heap[b]?=w.heap[b]?):DBox w' b d j k l i g :=
 have c:∀ o,w'.cell? ⟨b,o,none⟩=w.cell? ⟨b,o,none⟩:=fun o=>cq (a:=⟨b,o,none⟩) e;have f:∀ o,w'.frozen? ⟨b,o,none⟩=w.frozen? ⟨b,o,none⟩:=fun o=>World.frozen?_of_block (a:=⟨b,o,none⟩) e
 ⟨lj h.lt hz,⟨(c 0).trans h.c0.1,(f 0).trans h.c0.2⟩,⟨(c 1).trans h.c1.1,(f 1).trans h.c1.2⟩,⟨(c 2).trans h.c2.1,(f 2).trans h.c2.2⟩,⟨(c 3).trans h.c3.1,(f 3).trans h.c3.2⟩,⟨(c 4).trans h.c4.1,(f 4).trans h.c4.2⟩,⟨(c 5).trans h.c5.1,(f 5).trans h.c5.2⟩⟩
theorem DBox.below {w g:World}{b B:Nat}{c i j k f d:Value}(h:DBox w b c i j k f d)(hb:Below B w g)(l:b<B):DBox g b c i j k f d:=h.blk hb.size (hb.block b l)
theorem DBox.far {w:World}{b:Nat}{c g i j f d:Value}(h:DBox w b c g i j f d){p:Addr}(k:p.block≠b)(v:Value):DBox (w.setCell p v) b c g i j f d:=h.blk (by simp) (qh _ _ _ _ (fun e=>k e.symm))
theorem DBox.set1 {w:World}{b:Nat}{c j g i f d:Value}(h:DBox w b c j g i f d)(v:Value):DBox (w.setCell ⟨b,1,none⟩ v) b c v g i f d :=
 ⟨by simpa using h.lt,⟨(sq _ _ _ _ (by simp)).trans h.c0.1,by simpa using h.c0.2⟩,⟨World.cell?_setCell_same' _ _ _ (by rw[h.c1.1];rfl),by simpa using h.c1.2⟩,⟨(sq _ _ _ _ (by simp)).trans h.c2.1,by simpa using h.c2.2⟩,⟨(sq _ _ _ _ (by simp)).trans h.c3.1,by simpa using h.c3.2⟩,⟨(sq _ _ _ _ (by simp)).trans h.c4.1,by simpa using h.c4.2⟩,⟨(sq _ _ _ _ (by simp)).trans h.c5.1,by simpa using h.c5.2⟩⟩
theorem DBox.set2 {w:World}{b:Nat}{c g j i f d:Value}(h:DBox w b c g j i f d)(v:Value):DBox (w.setCell ⟨b,2,none⟩ v) b c g v i f d :=
 ⟨by simpa using h.lt,⟨(sq _ _ _ _ (by simp)).trans h.c0.1,by simpa using h.c0.2⟩,⟨(sq _ _ _ _ (by simp)).trans h.c1.1,by simpa using h.c1.2⟩,⟨World.cell?_setCell_same' _ _ _ (by rw[h.c2.1];rfl),by simpa using h.c2.2⟩,⟨(sq _ _ _ _ (by simp)).trans h.c3.1,by simpa using h.c3.2⟩,⟨(sq _ _ _ _ (by simp)).trans h.c4.1,by simpa using h.c4.2⟩,⟨(sq _ _ _ _ (by simp)).trans h.c5.1,by simpa using h.c5.2⟩⟩
theorem DBox.set3 {w:World}{b:Nat}{c g i j f d:Value}(h:DBox w b c g i j f d)(v:Value):DBox (w.setCell ⟨b,3,none⟩ v) b c g i v f d :=
 ⟨by simpa using h.lt,⟨(sq _ _ _ _ (by simp)).trans h.c0.1,by simpa using h.c0.2⟩,⟨(sq _ _ _ _ (by simp)).trans h.c1.1,by simpa using h.c1.2⟩,⟨(sq _ _ _ _ (by simp)).trans h.c2.1,by simpa using h.c2.2⟩,⟨World.cell?_setCell_same' _ _ _ (by rw[h.c3.1];rfl),by simpa using h.c3.2⟩,⟨(sq _ _ _ _ (by simp)).trans h.c4.1,by simpa using h.c4.2⟩,⟨(sq _ _ _ _ (by simp)).trans h.c5.1,by simpa using h.c5.2⟩⟩
theorem DBox.set4 {w:World}{b:Nat}{c f g i j d:Value}(h:DBox w b c f g i j d)(v:Value):DBox (w.setCell ⟨b,4,none⟩ v) b c f g i v d :=
 ⟨by simpa using h.lt,⟨(sq _ _ _ _ (by simp)).trans h.c0.1,by simpa using h.c0.2⟩,⟨(sq _ _ _ _ (by simp)).trans h.c1.1,by simpa using h.c1.2⟩,⟨(sq _ _ _ _ (by simp)).trans h.c2.1,by simpa using h.c2.2⟩,⟨(sq _ _ _ _ (by simp)).trans h.c3.1,by simpa using h.c3.2⟩,⟨World.cell?_setCell_same' _ _ _ (by rw[h.c4.1];rfl),by simpa using h.c4.2⟩,⟨(sq _ _ _ _ (by simp)).trans h.c5.1,by simpa using h.c5.2⟩⟩
theorem DBox.set5 {w:World}{b:Nat}{c f g i d j:Value}(h:DBox w b c f g i d j)(v:Value):DBox (w.setCell ⟨b,5,none⟩ v) b c f g i d v :=
 ⟨by simpa using h.lt,⟨(sq _ _ _ _ (by simp)).trans h.c0.1,by simpa using h.c0.2⟩,⟨(sq _ _ _ _ (by simp)).trans h.c1.1,by simpa using h.c1.2⟩,⟨(sq _ _ _ _ (by simp)).trans h.c2.1,by simpa using h.c2.2⟩,⟨(sq _ _ _ _ (by simp)).trans h.c3.1,by simpa using h.c3.2⟩,⟨(sq _ _ _ _ (by simp)).trans h.c4.1,by simpa using h.c4.2⟩,⟨World.cell?_setCell_same' _ _ _ (by rw[h.c5.1];rfl),by simpa using h.c5.2⟩⟩
theorem gN (w:World)(b f h g d c:Value)(t:TypeId):DBox (w.alloc (.cells #[b,f,h,g,d,c] t)) w.heap.size b f h g d c:=by refine⟨by simp,?_,?_,?_,?_,?_,?_⟩<;>simp
theorem vm (w:World)(b f g h d c u0 u1 u2 u3 u4 u5:Value)(t:TypeId):DBox ((w.alloc (.cells #[b,f,g,h,d,c] t)).alloc (.cells #[u0,u1,u2,u3,u4,u5] t)) w.heap.size b f g h d c/\DBox ((w.alloc (.cells #[b,f,g,h,d,c] t)).alloc (.cells #[u0,u1,u2,u3,u4,u5] t)) (w.heap.size+1) u0 u1 u2 u3 u4 u5:=by
 have hz:(w.alloc (.cells #[b,f,g,h,d,c] t)).heap.size=w.heap.size+1:=by simp
 refine⟨(gN w b f g h d c t).below ((Below.refl (w.heap.size+1) _).alloc (by omega) _) (Nat.lt_succ_self _),?_⟩;have:=gN (w.alloc (.cells #[b,f,g,h,d,c] t)) u0 u1 u2 u3 u4 u5 t;rw[hz] at this;exact this
theorem vn (b off m c:Nat)(g:Nat->ar)(t:ByteArray)(w:World)(hmm:(m:Int)<=1048576)(d:RowDeed w b off m g):Calls Tryz.prog 179 #[.agg #[.slice (some ⟨b,off,none⟩) m c],.string t] w fun e r=>e=.returned (.int .i64 (gL g t m))/\Below w.heap.size w r:=by
 have f:=ae ((q9 w).alloc ly (.cells #[.slice (some ⟨b,off,none⟩) m c] 59));have o:=ae (d.below f.out ly);have q:(w.alloc (.cells #[.slice (some ⟨b,off,none⟩) m c] 59)).cell? ⟨w.heap.size,0,none⟩=some (.slice (some ⟨b,off,none⟩) m c):=by simp
 clear d;go_enter Tryz.func179,Tryz.ntmps179;go_wp2;generalize w.alloc (.cells #[.slice (some ⟨b,off,none⟩) m c] 59)=W at f o q ⊢;go_loop [5] (fun i=>∃ k:Nat,k<=m/\i=.int .i64 k/\Hid (∀ j,j<k->(!((g j).name.toList == t.toList))=true)) (fun i=>m - (intOf i).toNat);case atStart=>exact⟨0,by omega,rfl,fun j p=>absurd p (Nat.not_lt_zero _)⟩
 case round =>
  obtain⟨k,hk,rfl,n⟩:=hrel;by_cases h:k<m
  ·obtain⟨c0,_⟩:=o.out.2 k h
   cases hb:((g k).name.toList == t.toList) with
   | true =>have l:=ae hb;go_wp2;go_ret;refine⟨?_,f.out⟩;rw[gL,eF h (by rw[l.out];rfl) n.out];rfl
   | false =>
    have l:=ae hb;go_wp2;refine⟨⟨k+1,by omega,by go_num,fun j p=>?_⟩,by simp[intOf];omega⟩;by_cases e:j=k
    ·subst e;rw[l.out];rfl
    ·exact n.out j (by omega)
  ·have e:k=m:=by omega
   subst e;go_wp2;go_ret;refine⟨?_,f.out⟩;rw[gL,ez n.out];rfl
theorem vq (a:Option Addr)(c:Nat)(g:Nat->ar)(t:ByteArray)(w:World):Calls Tryz.prog 179 #[.agg #[.slice a 0 c],.string t] w fun e d=>e=.returned (.int .i64 (gL g t 0))/\Below w.heap.size w d:=by
 have b:=ae ((q9 w).alloc ly (.cells #[.slice a 0 c] 59));have f:(w.alloc (.cells #[.slice a 0 c] 59)).cell? ⟨w.heap.size,0,none⟩=some (.slice a 0 c):=by simp
 go_enter Tryz.func179,Tryz.ntmps179;go_wp2;generalize w.alloc (.cells #[.slice a 0 c] 59)=W at b f ⊢;go_loop [5] (fun i=>i=.int .i64 0) (fun _=>0);case atStart=>rfl
 case round =>subst hrel;go_wp2;go_ret;exact⟨rfl,b.out⟩
theorem vr (a:Option Addr)(m c:Nat)(g:Nat->ar)(t:ByteArray)(w:World)(d:(m:Int)<=1048576)(f:SlDeed w a m g):Calls Tryz.prog 179 #[.agg #[.slice a m c],.string t] w fun e h=>e=.returned (.int .i64 (gL g t m))/\Below w.heap.size w h:=by
 by_cases hz:m=0
 ·subst hz
  exact vq a c g t w
 ·obtain⟨b,off,rfl,i⟩:=f.resolve_left hz
  exact vn b off m c g t w d i
end Go.Proofs.YtkophfgkcijjkaaGreatDoor.Vp
