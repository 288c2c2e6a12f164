import Derived.Test.YtkophfgkcijjkaaGreatDoorYL
import Derived.Shelf.Spec.SlicesInsert
import Derived.Laws.CopyRow
import Derived.Lib.AppendZerosOnto
set_option maxRecDepth 100000
set_option maxHeartbeats 8000000
namespace Go.Proofs.YtkophfgkcijjkaaGreatDoor.Vp
open RowKit
theorem ti {w:World}{g h:Nat}{e f:TypeId}(k:TypeAt w g e)(l:TypeAt w h f)(i:e≠f):g≠h:=by rintro rfl;obtain⟨c,j⟩:=k;obtain⟨d,b⟩:=l;rw[j] at b;simp at b;exact i b.2
theorem TypeAt.grown {w d:World}{X:Nat}{e b:TypeId}{row:Option Nat}(h:TypeAt w X e)(l:w.grownBy d row)(j:∀ k,row=some k->TypeAt w k b)(g:e≠b):TypeAt d X e:=by
 have f:X<w.heap.size:=by obtain⟨c,m⟩:=h;exact(Array.getElem?_eq_some_iff.1 m).1
 exact h.block (l.block X f (fun i=>ti h (j X i.symm) g rfl))
theorem TRow.grown {w i:World}{b:Nat}{v:Value}{R:List TR}{row:Option Nat}(h:TRow w b v R)(c:w.grownBy i row)(f:∀ k,row=some k->TypeAt w k 100):TRow i b v R:=by
 refine⟨h.own.kept c ?_,fun r g=>?_,h.up⟩
 ·cases hv:v.ownBlock with
  | none=>exact .inl rfl
  | some k=>exact .inr fun e=>ti (h.type k hv) (f k e.symm) (by decide) rfl
 ·obtain⟨j,⟨F,m⟩,d,n⟩:=h.act r g
  have e:=c.block r.2.1 j.1 (fun l=>ti d (f _ l.symm) (by decide) rfl);exact⟨j.block c.size e,⟨F,m.block c.size e⟩,d.block e,n⟩
def fC (n0:Nat)(f0:Nat->Source)(n1:Nat)(f1:Nat->Target)(t:ByteArray)(m:Nat)(b:Nat->Ins):List Source:=if ip n0 f0 n1 f1 t (valid b m)=0 then bw f0 t n0 else []
def fT (n0:Nat)(f0:Nat->Source)(n1:Nat)(f1:Nat->Target)(t:ByteArray)(m:Nat)(b:Nat->Ins):List Target:=if ip n0 f0 n1 f1 t (valid b m)=0 then lw (ce f1 t n1) ⟨t,m,b⟩ t else []
structure Trio (w:World)(h:Nat)(p0 p1 p2:Value):Prop where
 lt:h+2<w.heap.size
 a0:w.cell? ⟨h,0,none⟩=some p0
 a1:w.cell? ⟨h,1,none⟩=some p1
 b0:w.cell? ⟨h+1,0,none⟩=some p2
 r0:w.cell? ⟨h+2,0,none⟩=some (.slice none 0 0)/\w.frozen? ⟨h+2,0,none⟩=false
 r1:w.cell? ⟨h+2,1,none⟩=some (.slice none 0 0)/\w.frozen? ⟨h+2,1,none⟩=false
theorem Trio.below {w d:World}{h B:Nat}{l i j:Value}(b:Trio w h l i j)(hb:Below B w d)(hB:h+3<=B):Trio d h l i j:=by have c:∀ k o,k<B->d.cell? ⟨k,o,none⟩=w.cell? ⟨k,o,none⟩:=fun k o g=>hb.cell (p:=⟨k,o,none⟩) g;have f:∀ k o,k<B->d.frozen? ⟨k,o,none⟩=w.frozen? ⟨k,o,none⟩:=fun k o g=>hb.frozen (p:=⟨k,o,none⟩) g;exact⟨lj b.lt hb.size,(c _ _ (by omega)).trans b.a0,(c _ _ (by omega)).trans b.a1,(c _ _ (by omega)).trans b.b0,⟨(c _ _ (by omega)).trans b.r0.1,(f _ _ (by omega)).trans b.r0.2⟩,⟨(c _ _ (by omega)).trans b.r1.1,(f _ _ (by omega)).trans b.r1.2⟩⟩
theorem wA (w:World)(c b d:Value)(t u:TypeId):Trio (((w.alloc (.cells #[c,b] t)).alloc (.cells #[d] u)).alloc (.cells #[.slice none 0 0,.slice none 0 0] t)) w.heap.size c b d:=by
 have h:Below (w.heap.size+1) (w.alloc (.cells #[c,b] t)) ((w.alloc (.cells #[c,b] t)).alloc (.cells #[d] u)):=br.alloc (by simp) _;have f:Below (w.heap.size+2) ((w.alloc (.cells #[c,b] t)).alloc (.cells #[d] u)) (((w.alloc (.cells #[c,b] t)).alloc (.cells #[d] u)).alloc (.cells #[.slice none 0 0,.slice none 0 0] t)):=br.alloc (by simp) _;have hz:(w.alloc (.cells #[c,b] t)).heap.size=w.heap.size+1:=by simp
 have g:((w.alloc (.cells #[c,b] t)).alloc (.cells #[d] u)).heap.size=w.heap.size+2:=by simp
 refine⟨by simp,?_,?_,?_,⟨?_,?_⟩,⟨?_,?_⟩⟩
 ·exact(f.cell (p:=⟨w.heap.size,0,none⟩) (by simp)).trans ((h.cell (p:=⟨w.heap.size,0,none⟩) (by simp)).trans (by simp))
 ·exact(f.cell (p:=⟨w.heap.size,1,none⟩) (by simp)).trans ((h.cell (p:=⟨w.heap.size,1,none⟩) (by simp)).trans (by simp))
 ·refine(f.cell (p:=⟨w.heap.size+1,0,none⟩) (by simp)).trans ?_
  rw[<-hz];clear h f hz g;generalize w.alloc (.cells #[c,b] t)=W;simp
 all_goals
  rw[<-g];clear h f hz g;generalize (w.alloc (.cells #[c,b] t)).alloc (.cells #[d] u)=W;simp
theorem qY {P:Program}{w:World}(d:Nat)(t ty e:TypeId)(i:TypeInfo)(z:Value)(size f:Nat)(B:P.underlying t=some (.slice e))(hi:P.info? e=some i)(hz:i.zero=some z)
  (n:i.size=size) (r:i.bytes=f) (x:z.cells.size=size)
  (b:Nat) (a:Addr) (c:Nat) (news:List Value) (m:news.length=1*size) (l:∀ j u,news[j]?=some u->w.cell? (a.add j)=some u)
  (h:1*f<=140737488355328) (g:d<=w.heap.size) :
  ∃ s p,(Builtin.append_ #[t,t] ty #[.slice (some ⟨b,0,none⟩) 0 0,.slice (some a) 1 c]).run P w=.ok s p/\p.ownsRow d e size s 1 news/\Below d w p:=by
 subst n r;have A:=run_append_grow (P:=P) w t ty e i z B hi hz ⟨b,0,none⟩ 0 0 [] (by simp) (by intro j v y;simp at y) a 1 c news m l (by omega) (by omega) (growslice_fits (by omega) (by simpa using h));have o:=grownCap_ge w (0+1) 0 e;have q:grownCap w (0+1) 0 e<=maxLen:=grownCap_le_maxLen w (0+1) 0 e (by unfold maxLen;omega);refine⟨_,_,A,⟨by simpa using m,.inr ⟨w.heap.size,_,_,rfl,g,heap_alloc_new w.drew _,o,q,?_,?_⟩⟩,rfl,rfl,rfl,by simp,fun k C=>heap_alloc_old w.drew _ (lj C g)⟩
 ·simp only[Array.size_append,List.size_toArray,size_zeroCells,x,m,List.length_nil,Nat.zero_add,<-Nat.add_mul]
  congr 1;have:=o;simp only[Nat.zero_add] at this;omega
 ·simp only[Array.toList_append,List.nil_append]
  rw[<-m];exact List.take_left
theorem dN {P:Program}{w:World}{E:Array Oper}{rest:List Oper}{o:Oper}{a:Act}{Q:Exit->Act->World->Prop}(D:o.guard=none)(s x:Operand)(t:TypeId)
  (I:o.op=.call { callee:=.builtin .append,args:=#[s,x],argTypes:=#[t,t] })
  (d:Nat) (e:TypeId) (i:TypeInfo) (z:Value) (size f:Nat) (N:P.underlying t=some (.slice e)) (hi:P.info? e=some i) (hz:i.zero=some z)
  (q:i.size=size) (B:i.bytes=f) (C:z.cells.size=size) (L:0<size)
  (v:Value) (n:Nat) (y:List Value) (M:a.eval s=v) (k:w.ownsRow d e size v n y∨∃ b,v=.slice (some ⟨b,0,none⟩) 0 0/\n=0/\y=[])
  (A:Addr) (c:Nat) (news:List Value) (K:a.eval x=.slice (some A) 1 c) (O:news.length=1*size) (p:∀ j u,news[j]?=some u->w.cell? (A.add j)=some u) (R:∀ u∈news,u.oneCell'=true)
  (J:n+1<=maxLen) (r:(n+1)*f<=140737488355328) (g:d<=w.heap.size)
  (h:∀ m l,l.ownsRow d e size m (n+1) (y++news)->Below d w l->wpList P E Q rest (a.put o.dst m) l):wpList P E Q (o :: rest) a w:=by
 rcases k with k | ⟨b,rfl,rfl,rfl⟩
 ·exact wpList_append_own w D s x t I d e i z size f N hi hz q B C L v n y M k A 1 c news K O p R J r g fun m l H G _=>h m l H (bg (Below.refl d w) G g (fun j e=>(k.lt j e).1))
 ·obtain⟨m,l,S,H,G⟩:=qY (w:=w) d t o.type e i z size f N hi hz q B C b A c news O p (by omega) g
  exact Lib.wpList_append_run w D s x t t I _ _ M K m l S (h m l (by simpa using H) G)
theorem mf {d:Type}(g:Nat->ByteArray)(F:Nat->d)(x:d)(t:ByteArray)(k:Nat):(dB g t k=false->dW g F x t k=(List.range k).map F)/\(dB g t k=true->∃ A B,(List.range k).map F=A++B/\dW g F x t k=A++x :: B):=by
 induction k with
 | zero=>simp[dW,dB]
 | succ j c =>
  have e:(List.range (j+1)).map F=(List.range j).map F++[F j]:=by rw[List.range_succ,List.map_append];rfl
  rw[e];simp only[dW,dB];cases hd:dB g t j with
  | false =>
   have b:=c.1 hd;cases hl:aH t (g j) with
   | true=>simpa[b] using⟨(List.range j).map F,[F j],rfl,by simp⟩
   | false=>simp[b]
  | true =>obtain⟨A,B,b,f⟩:=c.2 hd;simp only[Bool.true_or,Bool.true_eq_false,false_and,if_false,true_implies,false_implies,true_and];exact⟨A,B++[F j],by rw[b];simp,by rw[f];simp⟩
theorem tj {b:Type}(g:Nat->ByteArray)(F:Nat->b)(x:b)(t:ByteArray)(n:Nat):∃ A B,(List.range n).map F=A++B/\iE g F x t n=A++x :: B:=by
 obtain⟨c,d⟩:=mf g F x t n;unfold iE;cases hd:dB g t n with
 | true=>simpa using d hd
 | false=>exact⟨(List.range n).map F,[],by simp,by simp[c hd]⟩
theorem tk {c:Type}(R:List c)(d:c):(List.range R.length).map (fun j=>R.getD j d)=R:=by
 apply List.ext_getElem
 ·simp
 ·intro i b h2
  simp at b;simp[List.getD_eq_getElem?_getD,b]
theorem pC {b c:Type}(p:b->c)(R:List b)(d:b)(j:Nat):p (R.getD j d)=(R.map p).getD j (p d):=by simp[List.getD_eq_getElem?_getD]
theorem wB {w:World}{c:Nat}{k v:Value}{A B:List TR}{x:TR}(h:TRow w c k (A++B))(l:RowIns w x.2.1 0 x.1.actN x.1.act/\(∃ F,Cells w x.2.1 0 (x.1.actN*3) F)/\TypeAt w x.2.1 176/\c<=x.2.1)
  (f:∀ r∈A++B,r.2.1≠x.2.1) (i:w.ownsRow c 104 2 v (A++x :: B).length ((A++x :: B).flatMap aU)):TRow w c v (A++x :: B):=by
 refine⟨i,fun r d=>?_,?_⟩
 ·rcases List.mem_append.1 d with d | d
  ·exact h.act r (List.mem_append.2 (.inl d))
  ·rcases List.mem_cons.1 d with rfl | d
   ·exact l
   ·exact h.act r (List.mem_append.2 (.inr d))
 ·have g:=List.pairwise_append.1 h.up
  refine List.pairwise_append.2 ⟨g.1,List.pairwise_cons.2 ⟨fun b hb e=>f b (List.mem_append.2 (.inr hb)) e.symm,g.2.1⟩,fun a j b hb=>?_⟩;rcases List.mem_cons.1 hb with rfl | hb
  ·exact f a (List.mem_append.2 (.inl j))
  ·exact g.2.2 a j b hb
theorem xU {b:Type}{g:Nat->ByteArray}{F:Nat->b}{x:b}{t:ByteArray}{k:Nat}(h:dB g t k=true):(dW g F x t k).length≠0:=by obtain⟨A,B,_,c⟩:=(mf g F x t k).2 h;rw[c];simp
theorem tl {w:World}{d c:Nat}{a:Option Addr}{R:List TR}(h:TRow w d (.slice a R.length c) R)(hn:0<R.length):∃ b off,a=some ⟨b,off,none⟩/\b<w.heap.size/\∀ i,i<R.length->w.cell? ⟨b,off+i*2,none⟩=some (.string (R.getD i dfR).1.name)/\w.cell? ⟨b,off+i*2+1,none⟩=some (.slice (some ⟨(R.getD i dfR).2.1,0,none⟩) (R.getD i dfR).1.actN (R.getD i dfR).2.2):=by
 obtain⟨g,c',e⟩:=dA h.own hn;simp at e;obtain⟨rfl,rfl⟩:=e;refine⟨g,0,rfl,(cu h.own).2,fun i hi=>?_⟩;have f:R[i]?=some (R.getD i dfR):=by rw[List.getD_eq_getElem?_getD,gq hi];rfl
 generalize R.getD i dfR=r at f;refine⟨?_,?_⟩
 ·have:=(bA h.own (j:=i*2) (u:=.string r.1.name) (by have:=bZ aU 2 (fun _=>rfl) R i 0 (by omega) _ f;simpa[aU] using this)).1
  rwa[show 0+i*2=i*2 by omega]
 ·have:=(bA h.own (j:=i*2+1) (u:=.slice (some ⟨r.2.1,0,none⟩) r.1.actN r.2.2) (by have:=bZ aU 2 (fun _=>rfl) R i 1 (by omega) _ f;simpa[aU] using this)).1
  rwa[show 0+i*2+1=i*2+1 by omega]
def eA (R:List TR)(x:TR)(t:ByteArray):List TR:=iE (nm1 (ba (R.map fun r:TR=>r.1))) (fun j=>R.getD j dfR) x t R.length
theorem rQ (R:List TR)(j:Nat):nm1 (ba (R.map fun r:TR=>r.1)) j=(R.getD j dfR).1.name:=by exact congrArg Target.name (pC (fun r:TR=>r.1) R dfR j).symm
theorem pD (R:List TR)(x:TR)(t:ByteArray):(eA R x t).map (fun r:TR=>r.1)=lw (R.map fun r:TR=>r.1) x.1 t:=by unfold eA lw;rw[wj,List.length_map];congr 1;funext j;exact pC (fun r:TR=>r.1) R dfR j
theorem wD {w:World}{b:Nat}{g v:Value}{R:List TR}{x:TR}{t:ByteArray}(h:TRow w b g R)(i:RowIns w x.2.1 0 x.1.actN x.1.act/\(∃ F,Cells w x.2.1 0 (x.1.actN*3) F)/\TypeAt w x.2.1 176/\b<=x.2.1)
  (d:∀ r∈R,r.2.1≠x.2.1) (c:w.ownsRow b 104 2 v (eA R x t).length ((eA R x t).flatMap aU)):TRow w b v (eA R x t):=by
 obtain⟨A,B,f,k⟩:=tj (nm1 (ba (R.map fun r:TR=>r.1))) (fun j=>R.getD j dfR) x t R.length;rw[tk] at f;unfold eA at c ⊢;rw[k] at c ⊢;subst f;exact wB h i d c
theorem xV {w:World}{b g c:Nat}{x:Target}(h:w.ownsRow b 176 3 (.slice (some ⟨g,0,none⟩) x.actN c) x.actN (bI x.act x.actN)):RowIns w g 0 x.actN x.act/\(∃ F,Cells w g 0 (x.actN*3) F)/\TypeAt w g 176/\b<=g:=by obtain⟨d,f⟩:=kf h;exact⟨d,f,ei h,(cu h).1⟩
structure BoxZ (w:World)(X:Nat):Prop where
 lt:X<w.heap.size
 z0:w.frozen? ⟨X,0,none⟩=false
 z1:w.frozen? ⟨X,1,none⟩=false
 c0:w.cell? ⟨X,0,none⟩=some (.slice none 0 0)
 c1:w.cell? ⟨X,1,none⟩=some (.slice none 0 0)
 ty:TypeAt w X 26
theorem BoxZ.below {w c:World}{X B:Nat}(h:BoxZ w X)(hb:Below B w c)(b:X<B):BoxZ c X :=
 ⟨lj h.lt hb.size,(hb.frozen (p:=⟨X,0,none⟩) b).trans h.z0,(hb.frozen (p:=⟨X,1,none⟩) b).trans h.z1,(hb.cell (p:=⟨X,0,none⟩) b).trans h.c0,(hb.cell (p:=⟨X,1,none⟩) b).trans h.c1,h.ty.block (hb.block X b)⟩
structure RoomBox (W wx:World)(X:Nat)(p q:Value)(L:List Source)(R:List TR):Prop where
 two:yM wx X p q
 ty:TypeAt wx X 26
 ge:W.heap.size<=X
 src:wx.ownsRow W.heap.size 100 2 p L.length (L.flatMap be)
 tgt:TRow wx W.heap.size q R
 below:Below W.heap.size W wx
theorem TypeAt.set {w:World}{X g j:Nat}{e:TypeId}(h:TypeAt w X e)(u:Value):TypeAt (w.setCell ⟨g,j,none⟩ u) X e:=by
 obtain⟨c,d⟩:=h;by_cases b:X=g
 ·subst b
  refine⟨c.setIfInBounds j u,?_⟩;unfold World.setCell;simp only[Array.getElem?_modify,if_true,d];rfl
 ·exact⟨c,(qh _ _ _ _ (by simpa using b)).trans d⟩
theorem RoomBox.on {W b c:World}{X:Nat}{p q:Value}{L:List Source}{R:List TR}(h:RoomBox W b X p q L R)(hb:Below b.heap.size b c):RoomBox W c X p q L R:=by have e:=hb.block X h.two.lt;exact⟨⟨lj h.two.lt hb.size,(cq (a:=⟨X,0,none⟩) e).trans h.two.c0,(cq (a:=⟨X,1,none⟩) e).trans h.two.c1,(World.frozen?_of_block (a:=⟨X,0,none⟩) e).trans h.two.z0,(World.frozen?_of_block (a:=⟨X,1,none⟩) e).trans h.two.z1⟩,h.ty.block e,h.ge,own_below h.src hb ly,h.tgt.below hb ly,h.below.trans (hb.mono h.below.size)⟩
structure OneB (w:World)(b:Nat)(v:Value):Prop where
 lt:b<w.heap.size
 c0:w.cell? ⟨b,0,none⟩=some v
theorem OneB.block {w c:World}{b:Nat}{v:Value}(h:OneB w b v)(hz:w.heap.size<=c.heap.size)(hb:c.heap[b]?=w.heap[b]?):OneB c b v :=
 ⟨lj h.lt hz,(cq (a:=⟨b,0,none⟩) hb).trans h.c0⟩
theorem OneB.below {w c:World}{b:Nat}{v:Value}(h:OneB w b v)(hb:Below w.heap.size w c):OneB c b v:=h.block hb.size (hb.block b h.lt)
theorem OneB.touch {w c:World}{b:Nat}{v:Value}{P:Nat->Prop}(h:OneB w b v)(d:Touch P w c)(hb:¬ P b):OneB c b v:=h.block d.size (d.block b h.lt hb)
structure PCells (w:World)(g n:Nat):Prop where
 lt:g<w.heap.size
 cells:∃ F,Cells w g 0 (n*3) F
theorem PCells.below {w b:World}{g n:Nat}(h:PCells w g n)(hb:Below w.heap.size w b):PCells b g n:=by obtain⟨c,F,d⟩:=h;exact⟨lj c hb.size,F,d.block hb.size (hb.block g c)⟩
theorem PCells.touch {w c:World}{g n:Nat}{P:Nat->Prop}(h:PCells w g n)(b:Touch P w c)(hb:¬ P g):PCells c g n:=by obtain⟨d,F,f⟩:=h;exact⟨lj d b.size,F,f.block b.size (b.block g d hb)⟩
theorem jj {w:World}{c size n:Nat}{e:TypeId}{v:Value}{d:List Value}(h:w.ownsRow c e size v n d∨∃ b,v=.slice (some ⟨b,0,none⟩) 0 0/\n=0/\d=[])(o:Obj):(w.alloc o).ownsRow c e size v n d∨∃ b,v=.slice (some ⟨b,0,none⟩) 0 0/\n=0/\d=[] :=
 h.imp (fun h=>h.alloc o) id
theorem pE {q f wr:World}{b X Z bL lo m gb d:Nat}{s v u0 u1:Value}{R:List TR}{t:ByteArray}{c:Nat->Ins}(u:∀ g,Below X q g->TRow g (b+3) s R)(y:Below X q wr)(E:Below bL f wr)(A:f.ownsRow lo 176 3 (.slice (some ⟨gb,0,none⟩) m d) m (bI c m))(B:wr.ownsRow bL 104 2 v (eA R (⟨t,m,c⟩,gb,d) t).length ((eA R (⟨t,m,c⟩,gb,d) t).flatMap aU))(l:∀ r∈R,r.2.1<X)(hb:bL=f.heap.size)(h1:X<lo)(k:Z<b+3)(h3:b+3<=X)(h4:lo<=bL)(h5:lo<=gb):TRow (((wr.setCell ⟨X,1,none⟩ v).setCell ⟨Z,0,none⟩ u0).setCell ⟨Z,1,none⟩ u1) b v (eA R (⟨t,m,c⟩,gb,d) t):=by have D:=u _ (y.setCell (p:=⟨X,1,none⟩) ly v);have o:=aD (own_below A E (by omega)) (R:=X) (j:=1) (by omega) v;have i:=aD B (R:=X) (j:=1) (by omega) v;have C:=(D.set (X:=Z) (j:=0) k u0).set (X:=Z) (j:=1) k u1;have h:=aD (aD o (R:=Z) (j:=0) (by omega) u0) (R:=Z) (j:=1) (by omega) u1;have n:=aD (aD i (R:=Z) (j:=0) (by omega) u0) (R:=Z) (j:=1) (by omega) u1;exact wD (fo C (by omega)) (xV (x:=⟨t,m,c⟩) (aB h (by omega))) (fun r z=>by have:=l r z;show r.2.1≠gb;omega) (aB n (by omega))
theorem pF (a0:Option Addr)(n0 c0:Nat)(f0:Nat->Source)(a1:Option Addr)(n1 c1:Nat)(f1:Nat->Target)(t:ByteArray)(ap:Option Addr)(m cp:Nat)(c:Nat->Ins)(w:World)(hn0:(n0:Int)<=1048576)(hn1:(n1:Int)<=1048576)(hm:m<=1048576)(zW:SlSource w a0 n0 f0)(Aj:SlTarget w a1 n1 f1)(Ah:SlIns w ap m c)(zQ:∀ i,i<n1->bD (f1 i))(hs:∀ i,i<n1->∀ j,j<(f1 i).actN->((f1 i).act j).s.size<=maxLen)(Al:∀ i,i<m->(c i).s.size<=maxLen):Calls Tryz.prog 17 #[.agg #[.slice a0 n0 c0,.slice a1 n1 c1],.string t,.agg #[.slice ap m cp]] w fun e O=>∃ v0 v1 R,e=.returned (.tuple #[.agg #[v0,v1],.int .i64 (ip n0 f0 n1 f1 t (valid c m))])/\O.ownsRow w.heap.size 100 2 v0 (fC n0 f0 n1 f1 t m c).length ((fC n0 f0 n1 f1 t m c).flatMap be)/\TRow O w.heap.size v1 R/\R.map (·.1)=fT n0 f0 n1 f1 t m c/\Below w.heap.size w O:=by
 have V0:=ae zW;have V1:=ae Aj;have VP:=ae Ah;have HF:=ae zQ;have HS:=ae hs;have Ao:=ae Al;clear zW Aj Ah zQ hs Al;obtain⟨bt,aq,la,fd,ld⟩:=info_parts ft;obtain⟨C,hC⟩:∃ C,C=bi n0 f0 n1 f1:=⟨_,rfl⟩
 obtain⟨rt,zH⟩:∃ rt,rt=valid c m:=⟨_,rfl⟩
 obtain⟨D,hD⟩:∃ D,D=ip n0 f0 n1 f1 t (valid c m):=⟨_,rfl⟩
 obtain⟨A,zR⟩:∃ A,A=fC n0 f0 n1 f1 t m c:=⟨_,rfl⟩
 obtain⟨LT,zL⟩:∃ LT,LT=fT n0 f0 n1 f1 t m c:=⟨_,rfl⟩
 rw[<-hD,<-zR,<-zL];have HC:=ae hC;have HR:=ae zH;have HD:=ae (hD.trans (by unfold ip;rw[<-hC,<-zH]));have mv:=ae (zR.trans (by unfold fC;rw[<-hD]));have G:=ae (zL.trans (by unfold fT;rw[<-hD]));clear hC hD zR zL zH;have A0:=ae ((((q9 w).alloc ly (.cells #[.slice a0 n0 c0,.slice a1 n1 c1] 26)).alloc (by simp) (.cells #[.slice ap m cp] 31)).alloc (by simp;omega) (.cells #[.slice none 0 0,.slice none 0 0] 26));have X0:=ae (wA w (.slice a0 n0 c0) (.slice a1 n1 c1) (.slice ap m cp) 26 31);go_enter Tryz.func17,Tryz.ntmps17;go_wp2_with fail;generalize ((w.alloc (.cells #[.slice a0 n0 c0,.slice a1 n1 c1] 26)).alloc (.cells #[.slice ap m cp] 31)).alloc (.cells #[.slice none 0 0,.slice none 0 0] 26)=W at A0 X0 ⊢;refine(eu a0 n0 c0 f0 a1 n1 c1 f1 _ hn0 hn1 (V0.out.below A0.out ly) (V1.out.below A0.out ly) HF.out HS.out).mono ?_;rintro e w1 ⟨rfl,z⟩;rw[<-HC.out];have X1:=ae (X0.out.below z X0.out.lt);have B1:=ae (A0.out.trans (z.mono A0.out.size));clear z A0 X0;by_cases hc:C=0;case neg =>
  have hd:=HD.out;rw[if_pos hc] at hd;have u:=mv.out;rw[if_neg (by omega)] at u;have l:=G.out;rw[if_neg (by omega)] at l;subst hd u l;have hc':(C == 0)=false:=by simpa using hc
  obtain⟨r0,q0⟩:=X1.out.r0;obtain⟨r1,q1⟩:=X1.out.r1;go_wp2;exact bp (v:=.tuple #[.agg #[.slice none 0 0,.slice none 0 0],.int .i64 1]) (by simp[results,Tryz.results17,go_sem,r0,r1]) rfl ⟨_,_,[],rfl,World.ownsRow_nil _ _ _ _,cL _ _,rfl,(B1.out.setCell (by simp;omega) _).setCell (by simp;omega) _⟩
 subst hc;have hz:=je HC.out.symm;have HZ:=ae hz;clear hz HC;have zJ:=HD.out;rw[if_neg (by omega)] at zJ;have zM:=ae zJ;clear zJ HD;go_wp2_with fail;refine(bk t _).mono ?_;rintro e w2 ⟨rfl,z⟩;have X2:=ae (X1.out.below z X1.out.lt);have B2:=ae (B1.out.trans (z.mono B1.out.size));clear z X1 B1;cases hn:aw t with
 | false =>have hd:=zM.out;rw[if_pos (.inl hn)] at hd;have u:=mv.out;rw[if_neg (by omega)] at u;have l:=G.out;rw[if_neg (by omega)] at l;subst hd u l;obtain⟨r0,q0⟩:=X2.out.r0;obtain⟨r1,q1⟩:=X2.out.r1;go_wp2;exact bp (v:=.tuple #[.agg #[.slice none 0 0,.slice none 0 0],.int .i64 2]) (by simp[results,Tryz.results17,go_sem,r0,r1]) rfl ⟨_,_,[],rfl,World.ownsRow_nil _ _ _ _,cL _ _,rfl,(B2.out.setCell (by simp;omega) _).setCell (by simp;omega) _⟩
 | true =>
 have k2:=X2.out.b0;go_wp2_with fail;refine(gJ ap m cp c _ hm (VP.out.below B2.out ly) Ao.out).mono ?_;rintro e As ⟨rfl,z⟩;rw[<-HR.out];have B:=ae (X2.out.below z X2.out.lt);have U:=ae (B2.out.trans (z.mono B2.out.size));clear z X2 B2 k2;have T:=zM.out;rw[hn] at T;clear zM;cases rt with
 | false =>rw[if_pos (.inr rfl)] at T;have u:=mv.out;rw[if_neg (by omega)] at u;have l:=G.out;rw[if_neg (by omega)] at l;subst T u l;obtain⟨r0,q0⟩:=B.out.r0;obtain⟨r1,q1⟩:=B.out.r1;go_wp2;exact bp (v:=.tuple #[.agg #[.slice none 0 0,.slice none 0 0],.int .i64 2]) (by simp[results,Tryz.results17,go_sem,r0,r1]) rfl ⟨_,_,[],rfl,World.ownsRow_nil _ _ _ _,cL _ _,rfl,(U.out.setCell (by simp;omega) _).setCell (by simp;omega) _⟩
 | true =>
 rw[if_neg (by simp)] at T;have Aa:=ae T;clear T hn;have hm1:1<=m:=by have h:=HR.out;unfold valid at h;have h2:=(Bool.and_eq_true_iff.1 h.symm).2;have:=(of_decide_eq_true h2).1;omega
 obtain⟨pb,po,rfl,Ad⟩:=VP.out.resolve_left (by omega);have zY:=ae Ad;clear VP Ad HR;have k0:=B.out.a0;have k1:=B.out.a1;go_wp2_with fail;refine(fc a0 n0 c0 f0 a1 n1 c1 f1 t _ hn0 hn1 (V0.out.below U.out ly) (V1.out.below U.out ly) HF.out).mono ?_;rintro e y ⟨v0,v1,R,rfl,hO,hR,hM,z⟩;have Aq:=B.out.lt;have X3:=ae (B.out.below z B.out.lt);have B3:=ae (U.out.trans (z.mono U.out.size));obtain⟨M,J,rfl⟩:=aL hO;obtain⟨Q,P,rfl⟩:=aL hR.own;have eR:R.length=(ce f1 t n1).length:=by rw[<-hM];simp
 have At:=jQ f0 t n0;have Ax:=jR f1 t n1;obtain⟨L,hL⟩:∃ L,L=bw f0 t n0:=⟨_,rfl⟩
 obtain⟨K,hK⟩:∃ K,K=ce f1 t n1:=⟨_,rfl⟩
 rw[<-hL] at hO At ⊢;rw[<-hK] at hM Ax eR;have V:=Aa.out;rw[<-hL,<-hK] at V;have u:=mv.out;rw[<-hL] at u;have l:=G.out;rw[<-hK] at l;have ER:=ae eR;have hlr:R.length<=n1:=by omega
 clear Aa mv G hL hK z k0 k1 B U eR;have hbw:w.heap.size+3<=As.heap.size:=Aq;have O3:=ae (aB hO (base':=w.heap.size+3) (by omega));have R3:=ae (fo hR (base':=w.heap.size+3) (by omega));have HM:=ae hM;have hll:(L.length:Int)<=1048576:=by omega
 clear hO hR hM;have DB:=ae ((q9 y).alloc ly (.cells #[.slice M L.length J,.slice Q R.length P] 26));have K8:=ae (pr y (.slice M L.length J) (.slice Q R.length P) 26);have X4:=ae (X3.out.below DB.out X3.out.lt);have B4:=ae (B3.out.trans (DB.out.mono B3.out.size));have O4:=ae (own_below O3.out DB.out ly);have R4:=ae (R3.out.below DB.out ly);have ro:=ae DB.out;have Ag:w.heap.size+2<y.heap.size:=X3.out.lt;have c8:=K8.out.c0;have c9:=K8.out.c1;clear DB;by_cases hc3:(200:Int)<=L.length+R.length
 ·rw[if_pos (by have:=ER.out;omega)] at V
  rw[if_neg (by omega)] at u l;subst V u l;obtain⟨r0,q0⟩:=X3.out.r0;obtain⟨r1,q1⟩:=X3.out.r1;clear c8 c9;go_wp2;exact bp (v:=.tuple #[.agg #[.slice none 0 0,.slice none 0 0],.int .i64 3]) (by simp[results,Tryz.results17,go_sem,r0,r1,Ag]) rfl ⟨_,_,[],rfl,World.ownsRow_nil _ _ _ _,cL _ _,rfl,((B3.out.setCell (by simp;omega) _).setCell (by simp;omega) _).alloc (by have:=B3.out.size;simp;omega) _⟩
 clear X3;rw[if_neg (by have:=ER.out;omega)] at V;rw[if_pos V] at u l;subst V u;have G:=ae l;clear l;have k2:=X4.out.b0;have Am:(y.alloc (.cells #[.slice M A.length J,.slice Q R.length P] 26)).heap.size=y.heap.size+1:=by simp
 have RX:Hid (∀ O,Below y.heap.size y O->TRow O (w.heap.size+3) (.slice Q R.length P) R):=fun O hb=>R3.out.below hb ly;have OX:Hid (∀ O,Below y.heap.size y O->O.ownsRow (w.heap.size+3) 100 2 (.slice M A.length J) A.length (A.flatMap be)):=fun O hb=>own_below O3.out hb ly;have zK:Hid (∀ r∈R,r.2.1<y.heap.size):=fun r hr=>(R3.out.act r hr).1.1;have E5:=ae ((Below.refl (y.alloc (.cells #[.slice M A.length J,.slice Q R.length P] 26)).heap.size (y.alloc (.cells #[.slice M A.length J,.slice Q R.length P] 26))).alloc ly (.cells #[] 104));have An:((y.alloc (.cells #[.slice M A.length J,.slice Q R.length P] 26)).alloc (.cells #[] 104)).heap.size=(y.alloc (.cells #[.slice M A.length J,.slice Q R.length P] 26)).heap.size+1:=by simp
 have k3:=(E5.out.cell (p:=⟨w.heap.size+1,0,none⟩) (by show w.heap.size+1<_;have:=X4.out.lt;omega)).trans k2;have n8:=ae (zY.out.below B4.out ly);have zD:=ae Am;have th:=ae An;clear R3 O3 k2 Am An;go_wp2_with fail;generalize (y.alloc (.cells #[.slice M A.length J,.slice Q R.length P] 26)).alloc (.cells #[] 104)=zF at E5 th k3 ⊢;generalize y.alloc (.cells #[.slice M A.length J,.slice Q R.length P] 26)=w4 at K8 X4 B4 O4 R4 c8 c9 zD th ro E5 n8;generalize y.heap.size=X at K8 c8 c9 Ag zD RX OX zK ro ⊢;refine(gj pb po m cp c _ (by omega) (n8.out.below E5.out ly)).mono ?_;rintro e w5 ⟨gb,n,rfl,zI,zT⟩;have hzx:w4.heap.size=X+1:=zD.out;have hzy:zF.heap.size=w4.heap.size+1:=th.out;have F5:=ae (E5.out.trans (zT.mono (by omega)));have OG:=ae zI;have Ac:=(cu zI).1;clear zI zT E5 zD th k3 n8;have zP:(w5.alloc (.cells #[.string t,.slice (some ⟨gb,0,none⟩) m n] 104)).heap.size=w5.heap.size+1:=by simp
 have F6:=ae (F5.out.alloc F5.out.size (.cells #[.string t,.slice (some ⟨gb,0,none⟩) m n] 104));have y0:(w5.alloc (.cells #[.string t,.slice (some ⟨gb,0,none⟩) m n] 104)).cell? ⟨w5.heap.size,0,none⟩=some (.string t):=by simp
 have y1:(w5.alloc (.cells #[.string t,.slice (some ⟨gb,0,none⟩) m n] 104)).cell? ⟨w5.heap.size,1,none⟩=some (.slice (some ⟨gb,0,none⟩) m n):=by simp
 have sm:=ae (OG.out.alloc (.cells #[.string t,.slice (some ⟨gb,0,none⟩) m n] 104));have zS:=F6.out.size;have ur:=ae zS;clear zS OG F5;go_wp2;generalize w5.alloc (.cells #[.string t,.slice (some ⟨gb,0,none⟩) m n] 104)=w6 at zP F6 y0 y1 sm ur ⊢;have hgw:gb<w6.heap.size:=(cu sm.out).2;generalize w5.heap.size=Y at zP y0 y1 ⊢;obtain⟨x,Ai⟩:∃ x,x=w6.heap.size:=⟨_,rfl⟩
 have o:=ae Ai;have N:X<x:=by have:=ur.out;omega
 have Ap:Y<x:=by omega
 have zU:=(F6.out.cell (p:=⟨X,0,none⟩) (by show X<_;omega)).trans c8;have Af:=(F6.out.cell (p:=⟨X,1,none⟩) (by show X<_;omega)).trans c9;have Ak:=(F6.out.frozen (p:=⟨X,1,none⟩) (by show X<_;omega)).trans K8.out.z1;have X6:=ae (X4.out.below F6.out (by have:=X4.out.lt;omega));have R6:=ae (R4.out.below F6.out ly);have Ab:=ae (ro.out.trans (F6.out.mono (by omega)));have zX:w.heap.size<=X:=by omega
 have hb1:X+2<x+0:=by have:=ur.out;omega
 clear c8 c9 K8 R4 O4 X4 B4 zP Ai ro F6 V0 V1 HF HS Ao zY HZ ur;have c8:=zU;have c9:=Af;clear zU Af;obtain⟨I,hI⟩:∃ I,I=dW (nm1 (ba (R.map fun r:TR=>r.1))) (fun j=>R.getD j dfR) ((⟨t,m,c⟩,gb,n):TR) t:=⟨_,rfl⟩
 obtain⟨H,S⟩:∃ H,H=dB (nm1 (ba (R.map fun r:TR=>r.1))) t:=⟨_,rfl⟩
 have Av:Hid (∀ k,I (k+1)=if H k=false/\aH t (R.getD k dfR).1.name=true then I k++[(⟨t,m,c⟩,gb,n)]++[R.getD k dfR] else I k++[R.getD k dfR]):=fun k=>by rw[hI,S,<-rQ R k];rfl
 have Au:Hid (∀ k,H (k+1)=(H k || aH t (R.getD k dfR).1.name)):=fun k=>by rw[S,<-rQ R k];rfl
 have Ar:Hid (∀ k,(I k).length<=k+1):=fun k=>by rw[hI];exact(vZ _ _ _ _ k).1
 have zZ:Hid (∀ k,H k=true->(I k).length≠0):=fun k h=>by rw[hI];rw[S] at h;exact xU h
 have zV:Hid (eA R (⟨t,m,c⟩,gb,n) t=if H R.length=true then I R.length else I R.length++[(⟨t,m,c⟩,gb,n)]):=by rw[hI,S];rfl
 have zO:Hid (I 0=[]/\H 0=false):=by rw[hI,S];exact⟨rfl,rfl⟩
 clear hI S;go_loopw [9,10,12] (fun v d i wr=>∃ (k:Nat) (db:Bool),k<=R.length/\i=.int .i64 k/\d=.bool db/\Hid (db=H k)/\Hid (wr.ownsRow x 104 2 v (I k).length ((I k).flatMap aU)∨∃ b,v=.slice (some ⟨b,0,none⟩) 0 0/\(I k).length=0/\(I k).flatMap aU=[])/\Hid (Below x w6 wr)) (fun _ _ i _=>R.length - (intOf i).toNat);case atStart=>exact⟨0,false,by omega,rfl,rfl,zO.out.2.symm,.inr ⟨_,rfl,by rw[zO.out.1];rfl,by rw[zO.out.1];rfl⟩,by rw[o.out];exact Below.refl _ _⟩
 case round =>
  obtain⟨k,db,hk,rfl,rfl,E,OW,q⟩:=hrel;have e9:=(q.out.cell (p:=⟨X,1,none⟩) N).trans c9;have z0:=(q.out.cell (p:=⟨Y,0,none⟩) Ap).trans y0;have z1:=(q.out.cell (p:=⟨Y,1,none⟩) Ap).trans y1;have hlen1:=Ar.out k;by_cases l:k<R.length
  ·obtain⟨b,off,rfl,hbl,Ae⟩:=tl R6.out (by omega)
   obtain⟨p0,p1⟩:=Ae k l;have zG:=Av.out k;have zN:=Au.out k;generalize R.getD k dfR=rk at p0 p1 zG zN;have qr:=ae zG;have n9:=ae zN;clear zG zN;have zE:b<x:=by have:=o.out;omega
   have d0:=(q.out.cell (p:=⟨b,off+k*2,none⟩) zE).trans p0;have d1:=(q.out.cell (p:=⟨b,off+k*2+1,none⟩) zE).trans p1;clear Ae;cases db with
   | true =>
    have HI:Hid (I (k+1)=I k++[rk]):=by show _=_;rw[qr.out,if_neg (by rw[<-E.out];simp)]
    have HN:Hid (true=H (k+1)):=by show true=_;rw[n9.out,<-E.out];rfl
    go_wp2_with (at_builtin;(refine dN rfl (.tmp 66) (.tmp 72) 24 rfl x 104 bt (.agg #[.string ⟨#[]⟩,.slice none 0 0]) 2 40 Tryz.underlying24 aq la fd ld rfl (by decide) _ (I k).length ((I k).flatMap aU) (by simp[Act.eval]) (jj OW.out _) ⟨wr.heap.size,0,none⟩ 1 (aU rk) (by simp[Act.eval]) rfl (da wr _ _ _) (by simp[aU,Value.oneCell']) (by unfold maxLen;omega) (by omega) (by have:=q.out.size;have:=o.out;simp;omega) ?_;intro vy wy f g;have OY:=ae f;have BY:=ae ((q.out.alloc (by have:=q.out.size;have:=o.out;omega) _).trans g);clear f g));exact⟨⟨k+1,true,by omega,by go_num,rfl,HN.out,.inl (by rw[HI.out,List.length_append,List.flatMap_append];simpa using OY.out),BY.out⟩,by simp[intOf];omega⟩
   | false =>
    cases hq:aH t rk.1.name with
    | true =>
     have HI:Hid (I (k+1)=I k++[(⟨t,m,c⟩,gb,n)]++[rk]):=by show _=_;rw[qr.out,if_pos ⟨E.out.symm,hq⟩]
     have HN:Hid (true=H (k+1)):=by show true=_;rw[n9.out,hq];simp
     obtain⟨q1,q2⟩:=fY hq;clear hq;go_wp2_with (at_builtin;first | (refine dN rfl (.tmp 62) (.tmp 64) 24 rfl x 104 bt (.agg #[.string ⟨#[]⟩,.slice none 0 0]) 2 40 Tryz.underlying24 aq la fd ld rfl (by decide) _ (I k).length ((I k).flatMap aU) (by simp[Act.eval]) (jj OW.out _) ⟨wr.heap.size,0,none⟩ 1 (aU (⟨t,m,c⟩,gb,n)) (by simp[Act.eval]) rfl (da wr _ _ _) (by simp[aU,Value.oneCell']) (by unfold maxLen;omega) (by omega) (by have:=q.out.size;have:=o.out;simp;omega) ?_;intro vx wx f g;have Aw:=ae f;have BX:=ae ((q.out.alloc (by have:=q.out.size;have:=o.out;omega) _).trans g);have f9:=(BX.out.cell (p:=⟨X,1,none⟩) N).trans c9;have g0:=(BX.out.cell (p:=⟨b,off+k*2,none⟩) zE).trans p0;have g1:=(BX.out.cell (p:=⟨b,off+k*2+1,none⟩) zE).trans p1;clear f g) | (refine dN rfl (.tmp 66) (.tmp 72) 24 rfl x 104 bt (.agg #[.string ⟨#[]⟩,.slice none 0 0]) 2 40 Tryz.underlying24 aq la fd ld rfl (by decide) _ ((I k).length+1) ((I k).flatMap aU++aU (⟨t,m,c⟩,gb,n)) (by simp[Act.eval]) (.inl (Aw.out.alloc _)) ⟨wx.heap.size,0,none⟩ 1 (aU rk) (by simp[Act.eval]) rfl (da wx _ _ _) (by simp[aU,Value.oneCell']) (by unfold maxLen;omega) (by omega) (by have:=BX.out.size;have:=o.out;simp;omega) ?_;intro vy wy f g;have OY:=ae f;have BY:=ae ((BX.out.alloc (by have:=BX.out.size;have:=o.out;omega) _).trans g);clear f g));exact⟨⟨k+1,true,by omega,by go_num,rfl,HN.out,.inl (by rw[HI.out,List.length_append,List.length_append,List.flatMap_append,List.flatMap_append];simpa using OY.out),BY.out⟩,by simp[intOf];omega⟩
    | false =>
     have HI:Hid (I (k+1)=I k++[rk]):=by show _=_;rw[qr.out,if_neg (by rw[hq];simp)]
     have HN:Hid (false=H (k+1)):=by show false=_;rw[n9.out,<-E.out,hq];rfl
     have HQ:=ae (gS hq);clear hq;rcases HQ.out with q1 | ⟨q1,q2⟩
     all_goals
      go_wp2_with (at_builtin;(refine dN rfl (.tmp 66) (.tmp 72) 24 rfl x 104 bt (.agg #[.string ⟨#[]⟩,.slice none 0 0]) 2 40 Tryz.underlying24 aq la fd ld rfl (by decide) _ (I k).length ((I k).flatMap aU) (by simp[Act.eval]) (jj OW.out _) ⟨wr.heap.size,0,none⟩ 1 (aU rk) (by simp[Act.eval]) rfl (da wr _ _ _) (by simp[aU,Value.oneCell']) (by unfold maxLen;omega) (by omega) (by have:=q.out.size;have:=o.out;simp;omega) ?_;intro vy wy f g;have OY:=ae f;have BY:=ae ((q.out.alloc (by have:=q.out.size;have:=o.out;omega) _).trans g);clear f g));exact⟨⟨k+1,false,by omega,by go_num,rfl,HN.out,.inl (by rw[HI.out,List.length_append,List.flatMap_append];simpa using OY.out),BY.out⟩,by simp[intOf];omega⟩
  ·have e:R.length=k:=by omega
   subst e;cases db with
   | true =>
    have ex:eA R (⟨t,m,c⟩,gb,n) t=I R.length:=by rw[zV.out,if_pos E.out.symm]
    have ow:=OW.out.resolve_right (by rintro⟨b,_,h0,_⟩;exact zZ.out _ E.out.symm h0);obtain⟨va,vc,rfl⟩:=dA ow (by have:=zZ.out _ E.out.symm;omega);have OF:Hid (wr.ownsRow x 104 2 (.slice (some ⟨va,0,none⟩) (I R.length).length vc) (eA R (⟨t,m,c⟩,gb,n) t).length ((eA R (⟨t,m,c⟩,gb,n) t).flatMap aU)):=by show World.ownsRow _ _ _ _ _ _ _;rw[ex];exact ow
    have e8:=(q.out.cell (p:=⟨X,0,none⟩) N).trans c8;have y9:=(q.out.frozen (p:=⟨X,1,none⟩) N).trans Ak;obtain⟨r0,q0⟩:=(X6.out.below q.out (by omega)).r0;obtain⟨r1,q1⟩:=(X6.out.below q.out (by omega)).r1;have H3:=ae ex;clear ex ow OW;go_wp2;refine ?_;have GB:=ae (Ab.out.trans (q.out.mono (by omega)));refine bp (v:=.tuple #[.agg #[.slice M A.length J,.slice (some ⟨va,0,none⟩) (I R.length).length vc],.int .i64 0]) (by simp[results,Tryz.results17,go_sem,r0,r1]) rfl ⟨_,_,eA R (⟨t,m,c⟩,gb,n) t,rfl,aB (aD (aD (OX.out _ ((GB.out).setCell (p:=⟨X,1,none⟩) ly _)) (R:=w.heap.size+2) (j:=0) (by omega) _) (R:=w.heap.size+2) (j:=1) (by omega) _) (by omega),?_,(pD R (⟨t,m,c⟩,gb,n) t).trans (by rw[HM.out];exact G.out.symm),(((B3.out.trans ((GB.out).mono zX)).setCell (by simp;omega) _).setCell (by simp;omega) _).setCell (by simp;omega) _⟩;exact pE (X:=X) (Z:=w.heap.size+2) (bL:=x) (lo:=zF.heap.size) RX.out GB.out q.out sm.out OF.out zK.out o.out (by omega) (by omega) (by omega) (by omega) Ac
   | false =>
    go_wp2_with (at_builtin;(refine dN rfl (.tmp 76) (.tmp 78) 24 rfl x 104 bt (.agg #[.string ⟨#[]⟩,.slice none 0 0]) 2 40 Tryz.underlying24 aq la fd ld rfl (by decide) _ (I R.length).length ((I R.length).flatMap aU) (by simp[Act.eval]) (jj OW.out _) ⟨wr.heap.size,0,none⟩ 1 (aU (⟨t,m,c⟩,gb,n)) (by simp[Act.eval]) rfl (da wr _ _ _) (by simp[aU,Value.oneCell']) (by unfold maxLen;omega) (by omega) (by have:=q.out.size;have:=o.out;simp;omega) ?_;intro vz wz f g;obtain⟨gs,cs,rfl⟩:=dA f (Nat.succ_pos _);have OZ:=ae f;have BZ:=ae ((q.out.alloc (by have:=q.out.size;have:=o.out;omega) _).trans g);have f8:=(BZ.out.cell (p:=⟨X,0,none⟩) N).trans c8;have f9:=(BZ.out.cell (p:=⟨X,1,none⟩) N).trans c9;have y9:=(BZ.out.frozen (p:=⟨X,1,none⟩) N).trans Ak;obtain⟨r0,q0⟩:=(X6.out.below BZ.out (by have:=o.out;omega)).r0;obtain⟨r1,q1⟩:=(X6.out.below BZ.out (by have:=o.out;omega)).r1;clear f g));have ex:eA R (⟨t,m,c⟩,gb,n) t=I R.length++[(⟨t,m,c⟩,gb,n)]:=by rw[zV.out,if_neg (by rw[<-E.out];simp)]
    have OF:Hid (wz.ownsRow x 104 2 (.slice (some ⟨gs,0,none⟩) ((I R.length).length+1) cs) (eA R (⟨t,m,c⟩,gb,n) t).length ((eA R (⟨t,m,c⟩,gb,n) t).flatMap aU)):=by show World.ownsRow _ _ _ _ _ _ _;rw[ex,List.length_append,List.flatMap_append];simpa using OZ.out
    have GB:=ae (Ab.out.trans (BZ.out.mono (by omega)));refine bp (v:=.tuple #[.agg #[.slice M A.length J,.slice (some ⟨gs,0,none⟩) ((I R.length).length+1) cs],.int .i64 0]) (by simp[results,Tryz.results17,go_sem,r0,r1]) rfl ⟨_,_,eA R (⟨t,m,c⟩,gb,n) t,rfl,aB (aD (aD (OX.out _ ((GB.out).setCell (p:=⟨X,1,none⟩) ly _)) (R:=w.heap.size+2) (j:=0) (by omega) _) (R:=w.heap.size+2) (j:=1) (by omega) _) (by omega),?_,(pD R (⟨t,m,c⟩,gb,n) t).trans (by rw[HM.out];exact G.out.symm),(((B3.out.trans ((GB.out).mono zX)).setCell (by simp;omega) _).setCell (by simp;omega) _).setCell (by simp;omega) _⟩;exact pE (X:=X) (Z:=w.heap.size+2) (bL:=x) (lo:=zF.heap.size) RX.out GB.out BZ.out sm.out OF.out zK.out o.out (by omega) (by omega) (by omega) (by omega) Ac
end Go.Proofs.YtkophfgkcijjkaaGreatDoor.Vp
