import Derived.Test.YtkophfgkcijjkaaGreatDoorXA
import Derived.Test.YtkophfgkcijjkaaGreatDoorZA
import Derived.Test.YtkophfgkcijjkaaGreatDoorYL
set_option maxHeartbeats 2000000
namespace Go.Proofs.YtkophfgkcijjkaaGreatDoor.Vp
open RowKit
section
variable {w0:World}{S:Spc}{mb mp:Nat}{s0 s1 mk md:Value}{mm making:List ByteArray}{made:List Ent}{G:ByteArray->Nat}{V:ByteArray->Value}
end
section
variable {w0 w:World}{S:Spc}{mb mp:Nat}{s0 s1 mk md:Value}{mm making:List ByteArray}{made:List Ent}{G:ByteArray->Nat}{V:ByteArray->Value}
theorem EntAt.congr {c:ByteArray->Nat}{b:Nat}{v:Value}{x:Ent}(h:EntAt w0 S G w b v x)(f:∀ l∈x.looks,l.ask=true->c l.name=G l.name):EntAt w0 S c w b v x:=by obtain⟨g,i,d⟩:=h;refine⟨g,i,?_⟩;rw[kN f];exact d
structure Ext (n:Nat)(made made':List Ent)(G G':ByteArray->Nat)(V V':ByteArray->Value):Prop where
 pre:∃ more,made'=made++more
 same:∀ x∈made,G' x.name=G x.name/\V' x.name=V x.name
 new:∀ x∈made',x∈made∨(n<=G' x.name/\∀ k,(V' x.name).ownBlock=some k->n<=k)
theorem Ext.refl (n:Nat)(made:List Ent)(G:ByteArray->Nat)(V:ByteArray->Value):Ext n made made G G V V:=⟨⟨[],by simp⟩,fun _ _=>⟨rfl,rfl⟩,fun _ h=>.inl h⟩
theorem Ext.mem {n:Nat}{made b:List Ent}{G f:ByteArray->Nat}{V d:ByteArray->Value}(h:Ext n made b G f V d):∀ x∈made,x∈b:=by obtain⟨more,e⟩:=h.pre;intro x c;rw[e];exact List.mem_append_left _ c
theorem Ext.trans {n m:Nat}{a b c:List Ent}{s y o:ByteArray->Nat}{r t u:ByteArray->Value}(h:Ext n a b s y r t)(k:Ext m b c y o t u)(f:n<=m):Ext n a c s o r u:=by
 obtain⟨p,C⟩:=h.pre;obtain⟨q,A⟩:=k.pre;refine⟨⟨p++q,by rw[A,C,List.append_assoc]⟩,fun x d=>?_,fun x d=>?_⟩
 ·obtain⟨z,D⟩:=h.same x d
  obtain⟨j,g⟩:=k.same x (h.mem x d);exact⟨j.trans z,g.trans D⟩
 ·rcases k.new x d with hb | ⟨l,i⟩
  ·obtain⟨j,g⟩:=k.same x hb
   rcases h.new x hb with B | ⟨l,i⟩
   ·exact .inl B
   ·exact .inr ⟨by rw[j];exact l,by rw[g];exact i⟩
  ·exact .inr ⟨Nat.le_trans f l,fun k E=>Nat.le_trans f (i k E)⟩
theorem Ext.mono {n m:Nat}{a b:List Ent}{d i:ByteArray->Nat}{g f:ByteArray->Value}(h:Ext n a b d i g f)(c:m<=n):Ext m a b d i g f :=
 ⟨h.pre,h.same,fun x j=>(h.new x j).imp id fun⟨l,p⟩=>⟨Nat.le_trans c l,fun k o=>Nat.le_trans c (p k o)⟩⟩
theorem EU.step {w':World}{r tg:Nat}{nm:ByteArray}{m:List Lk}{v:Value}{c:List Ent}{j:ByteArray->Nat}{o:ByteArray->Value}(h:EU w0 S w r nm tg G m v made V)(s:KX w0.heap.size XN w w')(f:Ext w.heap.size made c G j V o):EU w0 S w' r nm tg j m v c o:=by
 obtain⟨⟨a,cap,hb,g⟩,p,i,z,q,has⟩:=h;have y:∀ l∈m,l.ask=true->j l.name=G l.name:=fun l n g=>by obtain⟨x,b,e⟩:=has l n g;rw[<-e];exact(f.same x b).1
 have hebl:=af hb;refine⟨⟨a,cap,(s.blk _ _ _ _ hb (by decide) (by decide) (by decide) fun h=>h).trans hb,g⟩,p,?_,fun x b=>?_,fun x b k d=>?_,fun l n g=>?_⟩
 ·rw[kN y]
  refine bB i fun k d=>?_;obtain⟨_,_,cs,u⟩:=ah i k d;exact s.blk k _ _ _ u (by decide) (by decide) (by decide) fun h=>h
 ·rcases f.new x b with b | ⟨t,_⟩
  ·rw[(f.same x b).1];exact z x b
  ·omega
 ·rcases f.new x b with b | ⟨_,t⟩
  ·rw[(f.same x b).2];exact q x b k d
  ·intro e
   have:=t k e;have:=(ah i k d).2.1;omega
 ·obtain⟨x,b,e⟩:=has l n g
  exact⟨x,f.mem x b,e⟩
end
abbrev pZ (t:TypeId):Prop:=t≠9/\t≠135/\t≠192/\t≠138/\t≠214
section
variable {w0 w:World}{S:Spc}{mb mp:Nat}{s0 s1 mk md:Value}{cnt nk np:Nat}{F:List UInt8->Option Value}{ks ps:List Value}{made:List Ent}{G:ByteArray->Nat}{V:ByteArray->Value}
theorem MIg.setOff {b:Nat}{g:Array Value}{t:TypeId}{fz:Nat × Nat}(h:MIg w0 S mb mp s0 s1 w cnt F nk ks np ps made G V mk md)(hb:w.heap[b]?=some (.cells g t fz))(y:pZ t)(z:w0.heap.size<=b)(j:Nat)(u:Value):MIg w0 S mb mp s0 s1 (w.setCell ⟨b,j,none⟩ u) cnt F nk ks np ps made G V mk md:=by
 have C:KX w0.heap.size (fun i=>i=b) w (w.setCell ⟨b,j,none⟩ u):=KX.setCell (X:=fun i=>i=b) w z (Or.inl rfl) u;obtain⟨q,B,A,r,s⟩:=y;refine h.kx C (fun i o hi n=>qh _ _ _ _ fun e=>n e) (fun e=>?_) (fun e=>?_) (fun k d e=>?_) (fun k d e=>?_) (fun x m=>⟨fun e=>?_,fun k d e=>?_⟩)
 ·subst e;exact A (ai hb h.box)
 ·obtain⟨es,c,p⟩:=h.map.isMap
  rw[e,hb] at p;cases p
 ·subst e;obtain⟨_,_,g,f⟩:=ah h.rmk _ d;exact q (ai hb f)
 ·subst e;obtain⟨_,_,g,f⟩:=ah h.rmd _ d;exact B (ai hb f)
 ·obtain⟨act,l,_⟩:=(h.ents x m).blk
  rw[e] at l;exact r (ai hb l)
 ·subst e;obtain⟨_,_,g,f⟩:=ah (h.ents x m).row _ d;exact s (ai hb f)
theorem EU.setOff {b k tg:Nat}{nm:ByteArray}{l:List Lk}{v:Value}{i:Array Value}{t:TypeId}{fz:Nat × Nat}(h:EU w0 S w k nm tg G l v made V)(hb:w.heap[b]?=some (.cells i t fz))(q:pZ t)(j:Nat)(u:Value):EU w0 S (w.setCell ⟨b,j,none⟩ u) k nm tg G l v made V:=by
 obtain⟨⟨a,cap,c,n⟩,d,g,r,f,has⟩:=h;obtain⟨t1,t2,t3,m,o⟩:=q;refine⟨⟨a,cap,(qh _ _ _ _ fun e=>?_).trans c,n⟩,d,ay g (fun e=>?_) _ _,r,f,has⟩
 ·simp at e;subst e;exact m (ai hb c)
 ·obtain⟨_,_,i,p⟩:=ah g _ e;exact o (ai hb p)
theorem EU.below {w':World}{f tg C:Nat}{nm:ByteArray}{g:List Lk}{v:Value}(h:EU w0 S w f nm tg G g v made V)(hb:Below C w w')(i:w.heap.size<=C):EU w0 S w' f nm tg G g v made V:=by obtain⟨⟨a,cap,b,j⟩,c,k,l,d,has⟩:=h;exact⟨⟨a,cap,(hb.block _ (lj (af b) i)).trans b,j⟩,c,own_below k hb i,l,d,has⟩
theorem EntBlk.facts {b:Nat}{nm text:ByteArray}{kind code place:Int}{act c:Value}(h:EntBlk w b nm kind code text act c place):b<w.heap.size/\w.cell? ⟨b,0,none⟩=some (.string nm)/\w.cell? ⟨b,1,none⟩=some (.int .i64 kind)/\w.cell? ⟨b,2,none⟩=some (.int .i64 code)/\w.cell? ⟨b,3,none⟩=some (.string text)/\w.cell? ⟨b,4,none⟩=some act/\w.cell? ⟨b,5,none⟩=some (.slice none 0 0)/\w.cell? ⟨b,6,none⟩=some c/\w.cell? ⟨b,7,none⟩=some (.int .i64 place)/\∀ j,w.frozen? ⟨b,j,none⟩=false:=by unfold EntBlk at h;refine⟨af h,?_,?_,?_,?_,?_,?_,?_,?_,fun j=>?_⟩;all_goals simp[World.cell?,World.frozen?,h]
end
end Go.Proofs.YtkophfgkcijjkaaGreatDoor.Vp
namespace Go.Proofs.YtkophfgkcijjkaaGreatDoor.Vp
open RowKit Ca
theorem cJ {w:World}{b size n:Nat}{e:TypeId}{v:Value}{c:List Value}(h:w.ownsRow b e size v n c):∃ a cap,v=.slice a n cap:=by
 obtain⟨_,⟨rfl,rfl⟩ | ⟨g,cap,cur,rfl,_⟩⟩:=h
 ·exact⟨none,0,rfl⟩
 ·exact⟨_,_,rfl⟩
section
variable {w0:World}{S:Spc}{a0 a1:Option Addr}{c0 c1 mb mp:Nat}{mk md:Value}{making:List ByteArray}{made:List Ent}{G:ByteArray->Nat}{V:ByteArray->Value}
def RepSt (w0:World)(S:Spc)(mb mp:Nat)(s0 s1:Value)(w w':World)(making:List ByteArray)(made:List Ent)(G:ByteArray->Nat)(V:ByteArray->Value)(mk md:Value)(b tg:Nat)(nm:ByteArray)(d:List Lk)(v c:Value):Prop :=
 MI w0 S mb mp s0 s1 w' making making made G V mk md/\EU w0 S w' b nm tg G d c made V/\KX w0.heap.size (fun i=>i=b∨v.ownBlock=some i) w w'/\∀ k,c.ownBlock=some k->v.ownBlock=some k∨w.heap.size<=k
theorem RepSt.set {w W:World}{s0 s1:Value}{g tg b:Nat}{nm:ByteArray}{l:List Lk}{v k:Value}{f:Array Value}{t:TypeId}(h:RepSt w0 S mb mp s0 s1 w W making made G V mk md g tg nm l v k)(hb:W.heap[b]?=some (.cells f t (0,0)))(d:pZ t)(m:w0.heap.size<=w.heap.size)(c:w.heap.size<=b)(j:Nat)(u:Value):RepSt w0 S mb mp s0 s1 w (W.setCell ⟨b,j,none⟩ u) making made G V mk md g tg nm l v k/\(W.setCell ⟨b,j,none⟩ u).heap[b]?=some (.cells (f.setIfInBounds j u) t (0,0)) :=
 ⟨⟨h.1.setOff hb d (Nat.le_trans m c) j u,h.2.1.setOff hb d j u,h.2.2.1.trans (KX.setCell (X:=fun i=>i=b) W (Nat.le_trans m c) (Or.inl rfl) u) (fun i hi e=>by have e2:i=b:=e;omega),h.2.2.2⟩,av hb u⟩
end
end Go.Proofs.YtkophfgkcijjkaaGreatDoor.Vp
namespace Go.Proofs.YtkophfgkcijjkaaGreatDoor.Vp
open RowKit
section
variable {w0 w w':World}{S:Spc}{mb mp:Nat}{s0 s1 mk md:Value}{cnt nk np:Nat}{F:List UInt8->Option Value}{ks ps:List Value}{made:List Ent}{G:ByteArray->Nat}{V:ByteArray->Value}
theorem MIg.only {b:Nat}{g:Array Value}{t:TypeId}{fz:Nat × Nat}(h:MIg w0 S mb mp s0 s1 w cnt F nk ks np ps made G V mk md)(hb:w.heap[b]?=some (.cells g t fz))(u:pZ t)(y:w0.heap.size<=b)(m:Only b w w'):MIg w0 S mb mp s0 s1 w' cnt F nk ks np ps made G V mk md:=by
 have B:KX w0.heap.size (fun i=>i=b) w w':=KX.of_only m rfl h.lt y;obtain⟨q,A,z,r,s⟩:=u;refine h.kx B (fun i o hi n=>m.block i (af hi) n) (fun e=>?_) (fun e=>?_) (fun k d e=>?_) (fun k d e=>?_) (fun x l=>⟨fun e=>?_,fun k d e=>?_⟩)
 ·subst e;exact z (ai hb h.box)
 ·obtain⟨es,c,p⟩:=h.map.isMap
  rw[e,hb] at p;cases p
 ·subst e;obtain⟨_,_,g,f⟩:=ah h.rmk _ d;exact q (ai hb f)
 ·subst e;obtain⟨_,_,g,f⟩:=ah h.rmd _ d;exact A (ai hb f)
 ·obtain⟨act,j,_⟩:=(h.ents x l).blk
  rw[e] at j;exact r (ai hb j)
 ·subst e;obtain⟨_,_,g,f⟩:=ah (h.ents x l).row _ d;exact s (ai hb f)
theorem EU.only {b l tg:Nat}{nm:ByteArray}{m:List Lk}{v:Value}{j:Array Value}{t:TypeId}{fz:Nat × Nat}(h:EU w0 S w l nm tg G m v made V)(hb:w.heap[b]?=some (.cells j t fz))(r:pZ t)(d:Only b w w'):EU w0 S w' l nm tg G m v made V:=by
 obtain⟨⟨a,cap,c,o⟩,f,i,x,g,has⟩:=h;obtain⟨t1,t2,t3,n,p⟩:=r;refine⟨⟨a,cap,(d.block _ (af c) fun e=>?_).trans c,o⟩,f,bB i fun k s=>?_,x,g,has⟩
 ·subst e;exact n (ai hb c)
 ·obtain⟨_,u,j,q⟩:=ah i _ s
  exact d.block k u fun e=>p (ai hb (e ▸ q))
end
theorem MAt.blk {w w':World}{b:Nat}{c:Value}{m:Mst}(h:MAt w b c m)(hb:w'.heap[b]?=w.heap[b]?)(f:w.heap.size<=w'.heap.size):MAt w' b c m :=
 ⟨lj h.1 f,fun j d=>⟨(cq (a:=⟨b,j,none⟩) hb).trans (h.2 j d).1,(World.frozen?_of_block (a:=⟨b,j,none⟩) hb).trans (h.2 j d).2⟩⟩
def TB (w:World)(g:Nat)(t:Turn):Prop:=w.heap[g]?=some (.cells #[.bool t.over,.int .i64 t.code,.string t.text,.bool t.ask,.string t.name,.int .i64 t.steps] 70 (0,0))
theorem TB.facts {w:World}{g:Nat}{t:Turn}(h:TB w g t):g<w.heap.size/\w.cell? ⟨g,0,none⟩=some (.bool t.over)/\w.cell? ⟨g,1,none⟩=some (.int .i64 t.code)/\w.cell? ⟨g,2,none⟩=some (.string t.text)/\w.cell? ⟨g,3,none⟩=some (.bool t.ask)/\w.cell? ⟨g,4,none⟩=some (.string t.name)/\w.cell? ⟨g,5,none⟩=some (.int .i64 t.steps)/\∀ j,w.frozen? ⟨g,j,none⟩=false:=by unfold TB at h;refine⟨af h,?_,?_,?_,?_,?_,?_,fun j=>?_⟩;all_goals simp[World.cell?,World.frozen?,h]
theorem TB.put {w:World}{g:Nat}{u:Turn}(h:TB w g u)(t:Turn):TB (xT w g t) g t :=
 av (av (av (av (av (av h (j:=0) _) (j:=1) _) (j:=2) _) (j:=3) _) (j:=4) _) (j:=5) _
theorem TB.only {w w':World}{g b:Nat}{t:Turn}(h:TB w g t)(d:Only b w w')(c:g≠b):TB w' g t:=(d.block g (af h) c).trans h
end Go.Proofs.YtkophfgkcijjkaaGreatDoor.Vp
namespace Go.Proofs.YtkophfgkcijjkaaGreatDoor.Vp
open RowKit Ca
def ContOk (S:Spc)(tg:Nat)(b:List aC)(H:Halt):Prop:=∀ (y:Nat->aC) (n:Nat),b.length<=n->(∀ i,i<b.length->y i=yL b i)->sZ (S.f1 tg).act (S.f1 tg).actN y n H=dx (S.f1 tg).act (S.f1 tg).actN y n 2001 0 0 0 []
theorem ContOk.step {S:Spc}{tg:Nat}{b:List aC}{a:Bool}{nm:ByteArray}{s:List ByteArray}{p st:Nat}{d:Halt}{r:aC}(h:ContOk S tg b (.inr (a,nm,s,p,st,(b.length+1))))(f:∀ y n,b.length+1<=n->y (b.length+1 - 1)=r->sZ (S.f1 tg).act (S.f1 tg).actN y n (.inr (a,nm,s,p,st,(b.length+1)))=sZ (S.f1 tg).act (S.f1 tg).actN y n d):ContOk S tg (b++[r]) d:=by intro y n hn c;rw[List.length_append,List.length_singleton] at hn c;rw[<-f y n hn (by rw[Nat.add_sub_cancel,c _ (Nat.lt_succ_self _),xz])];exact h y n (by omega) fun i hi=>by rw[c i (by omega),uz b r hi]
section
variable {w0:World}{S:Spc}{a0 a1:Option Addr}{c0 c1 mb mp:Nat}{making:List ByteArray}
end
end Go.Proofs.YtkophfgkcijjkaaGreatDoor.Vp
namespace Go.Proofs.YtkophfgkcijjkaaGreatDoor.Vp
open RowKit
structure KS (B:Nat)(X:Nat->Prop)(w w':World):Prop where
 below:Below B w w'
 blk:∀ i cs t fz,w.heap[i]?=some (.cells cs t fz)->t≠9->t≠236->t≠125->¬ X i->w'.heap[i]?=w.heap[i]?
theorem KS.refl (B:Nat)(X:Nat->Prop)(w:World):KS B X w w:=⟨Below.refl _ _,fun _ _ _ _ _ _ _ _ _=>rfl⟩
theorem KS.trans {B:Nat}{X Y:Nat->Prop}{w w' b:World}(h:KS B X w w')(k:KS B Y w' b)(f:∀ i,i<w.heap.size->Y i->X i):KS B X w b :=
 ⟨h.below.trans k.below,fun i g t fz hi j d c hX=>by
  have e:=h.blk i g t fz hi j d c hX;rw[<-e]
  exact k.blk i g t fz (e.trans hi) j d c fun l=>hX (f i (af hi) l)⟩
theorem KS.to {B:Nat}{w w' b:World}{X:Nat->Prop}(h:KS B X w w')(k:KS B XN w' b):KS B X w b:=h.trans k fun _ _ h=>h.elim
theorem KS.of_below {B C:Nat}{X:Nat->Prop}{w w':World}(h:Below C w w')(b:w.heap.size<=C)(c:B<=w.heap.size):KS B X w w' :=
 ⟨h.mono (Nat.le_trans c b),fun i _ _ _ hi _ _ _ _=>h.block i (lj (af hi) b)⟩
theorem KS.of_only {B b:Nat}{X:Nat->Prop}{w w':World}(h:Only b w w')(hX:X b)(d:B<=w.heap.size)(hb:B<=b):KS B X w w' :=
 ⟨h.below hb d,fun i _ _ _ hi _ _ _ c=>h.block i (af hi) fun e=>c (e ▸ hX)⟩
theorem KS.of_grown {B:Nat}{X:Nat->Prop}{row:Option Nat}{w w':World}(h:w.grownBy w' row)(n:B<=w.heap.size)(d:∀ j,row=some j->B<=j/\(X j∨∀ c t fz,w.heap[j]?=some (.cells c t fz)->t=9∨t=236∨t=125)):KS B X w w':=by
 refine⟨⟨h.os,h.tape,h.output,h.size,fun k l=>h.block k (lj l n) fun e=>?_⟩,fun i c t fz hi m g f hX=>h.block i (af hi) fun e=>?_⟩
 ·have:=(d k e.symm).1
  omega
 ·rcases(d i e.symm).2 with b | b
  ·exact hX b
  ·rcases b c t fz hi with e | e | e
   ·exact m e
   ·exact g e
   ·exact f e
theorem KS.setCell {B:Nat}{X:Nat->Prop}(w:World){b j:Nat}(hb:B<=b)(c:X b∨∀ d t fz,w.heap[b]?=some (.cells d t fz)->t=9∨t=236∨t=125)(v:Value):KS B X w (w.setCell ⟨b,j,none⟩ v):=by
 refine⟨(Below.refl B w).setCell hb v,fun i d t fz hi h g f hX=>?_⟩;refine qh _ _ _ _ fun e=>?_;simp at e;subst e;rcases c with c | c
 ·exact hX c
 ·rcases c d t fz hi with e | e | e
  ·exact h e
  ·exact g e
  ·exact f e
def ShBox (w:World)(hb:Nat)(s0 s1 md or st:Value)(d:Int)(sx:ByteArray)(c:Value)(b:Bool):Prop:=w.heap[hb]?=some (.cells #[s0,s1,md,or,st,.int .i64 d,.string sx,c,.bool b] 125 (0,0))
theorem ShBox.facts {w:World}{hb:Nat}{s0 s1 md or st c:Value}{d:Int}{sx:ByteArray}{b:Bool}(h:ShBox w hb s0 s1 md or st d sx c b):hb<w.heap.size/\w.cell? ⟨hb,0,none⟩=some s0/\w.cell? ⟨hb,1,none⟩=some s1/\w.cell? ⟨hb,2,none⟩=some md/\w.cell? ⟨hb,3,none⟩=some or/\w.cell? ⟨hb,4,none⟩=some st/\w.cell? ⟨hb,5,none⟩=some (.int .i64 d)/\w.cell? ⟨hb,6,none⟩=some (.string sx)/\w.cell? ⟨hb,7,none⟩=some c/\w.cell? ⟨hb,8,none⟩=some (.bool b)/\∀ j,w.frozen? ⟨hb,j,none⟩=false:=by unfold ShBox at h;refine⟨af h,?_,?_,?_,?_,?_,?_,?_,?_,?_,fun j=>?_⟩;all_goals simp[World.cell?,World.frozen?,h]
theorem ShBox.blk {w w':World}{hb:Nat}{s0 s1 md or st c:Value}{f:Int}{sx:ByteArray}{b:Bool}(h:ShBox w hb s0 s1 md or st f sx c b)(d:w'.heap[hb]?=w.heap[hb]?):ShBox w' hb s0 s1 md or st f sx c b:=d.trans h
structure SM where
 name:ByteArray
 code:Int
 text:ByteArray
 seen:List Lk
 sv:Value
 done:Bool
def smV (m:SM):List Value:=[.string m.name,.int .i64 m.code,.string m.text,.slice none 0 0,m.sv,.bool m.done]
def df (b:List Lk):List Value:=b.flatMap fun l=>[.string l.name,.bool l.ask,.bool l.has]
def fI (L:List SM)(t:ByteArray):Option Nat:=L.findIdx? fun m=>m.name.toList == t.toList
structure eB (L:List SM)(making:List ByteArray)(made:List Ent):Prop where
 nod:L.Pairwise fun m m'=>m.name≠m'.name
 len:L.length=made.length+making.length
 got:∀ x∈made,∃ m∈L,m.name=x.name/\m.done=true/\m.code=(cY x).code/\m.text=(cY x).text/\m.seen=x.looks
 mkg:∀ t∈making,∃ m∈L,m.name=t/\m.done=false
 all:∀ m∈L,(∃ x∈made,x.name=m.name)∨m.name∈making
structure SI (w0:World)(hb:Nat)(s0 s1:Value)(w:World)(making:List ByteArray)(made:List Ent)(L:List SM)(md or st:Value):Prop where
 bel:Below w0.heap.size w0 w
 hbB:w0.heap.size<=hb
 box:ShBox w hb s0 s1 md or st 0 ⟨#[]⟩ (.slice none 0 0) false
 rmd:w.ownsRow w0.heap.size 236 6 md L.length (L.flatMap smV)
 ror:w.ownsRow w0.heap.size 9 1 or made.length (bR (made.map (·.name)))
 rst:w.ownsRow w0.heap.size 9 1 st making.length (bR making)
 apart:∀ k,or.ownBlock=some k->st.ownBlock≠some k
 seen:∀ m∈L,m.done=true->w.ownsRow w0.heap.size 239 3 m.sv m.seen.length (df m.seen)
section
variable {w0 w w':World}{hb:Nat}{s0 s1 md or st:Value}{making:List ByteArray}{made:List Ent}{L:List SM}
theorem SI.lt (h:SI w0 hb s0 s1 w making made L md or st):w0.heap.size<=w.heap.size:=h.bel.size
theorem SI.below {C:Nat}(h:SI w0 hb s0 s1 w making made L md or st)(b:Below C w w')(c:w.heap.size<=C):SI w0 hb s0 s1 w' making made L md or st :=
 ⟨h.bel.trans (b.mono (Nat.le_trans h.lt c)),h.hbB,h.box.blk (b.block _ (lj (af h.box) c)),own_below h.rmd b c,own_below h.ror b c,own_below h.rst b c,h.apart,fun m d f=>own_below (h.seen m d f) b c⟩
end
def cZ:Option Nat->Int
 | some i=>(i:Int)
 | none=>-1
theorem gd (g:Nat->ByteArray)(n:Nat)(t:ByteArray):bS g n t=(atI g n t).isSome:=by unfold bS atI;rw[Bool.eq_iff_iff,List.find?_isSome,List.any_eq_true]
theorem qb {g:Nat->ByteArray}{n:Nat}{t:ByteArray}(h:bS g n t=false):atI g n t=none:=by rw[gd] at h;exact Option.isNone_iff_eq_none.1 (by simpa using h)
theorem nW {g:Nat->ByteArray}{n k:Nat}{t:ByteArray}(c:k<n)(d:((g k).toList == t.toList)=true)(b:bS g k t=false):atI g n t=some k:=by
 unfold atI;rw[List.find?_range_eq_some];refine⟨d,List.mem_range.2 c,fun j f=>?_⟩;cases e:((g j).toList == t.toList) with
 | false=>rfl
 | true =>rw[jI f e] at b;cases b
theorem mU (b off n0 c0:Nat)(a1:Option Addr)(n1 c1:Nat)(f:Nat->Source)(t:ByteArray)(w:World)(hn:(n0:Int)<=1048576)(j:RowSource w b off n0 f):Calls Tryz.prog 84 #[.agg #[.slice (some ⟨b,off,none⟩) n0 c0,.slice a1 n1 c1],.string t] w fun e w'=>e=.returned (.int .i64 (cZ (atI (nm0 f) n0 t)))/\Below w.heap.size w w':=by
 have c:=ae ((q9 w).alloc ly (.cells #[.slice (some ⟨b,off,none⟩) n0 c0,.slice a1 n1 c1] 26));have m:=ae (j.below c.out ly);have n:(w.alloc (.cells #[.slice (some ⟨b,off,none⟩) n0 c0,.slice a1 n1 c1] 26)).cell? ⟨w.heap.size,0,none⟩=some (.slice (some ⟨b,off,none⟩) n0 c0):=by simp
 clear j;obtain⟨R,hR⟩:∃ R,R=cZ (atI (nm0 f) n0 t):=⟨_,rfl⟩
 rw[<-hR];have l:=ae hR;clear hR;go_enter Tryz.func84,Tryz.ntmps84;go_wp2;generalize w.alloc (.cells #[.slice (some ⟨b,off,none⟩) n0 c0,.slice a1 n1 c1] 26)=W at c m n ⊢;go_loop [5] (fun i=>∃ k:Nat,k<=n0/\i=.int .i64 k/\Hid (bS (nm0 f) k t=false)) (fun i=>n0 - (intOf i).toNat);case atStart=>exact⟨0,by omega,rfl,rfl⟩
 case round =>
  obtain⟨k,hk,rfl,g⟩:=hrel;by_cases d:k<n0
  ·obtain⟨d0,d1⟩:=m.out.2 k d
   cases hb:((f k).name.toList == t.toList) with
   | true =>have h:=ae hb;go_wp2;go_ret;exact⟨by rw[l.out,nW d h.out g.out];rfl,c.out⟩
   | false =>have h:=ae hb;go_wp2;exact⟨⟨k+1,by omega,by go_num,by show bS (nm0 f) (k+1) t=false;rw[ij,g.out];exact h.out⟩,by simp[intOf];omega⟩
  ·have e:k=n0:=by omega
   subst e;go_wp2;go_ret;exact⟨by rw[l.out,qb g.out];rfl,c.out⟩
theorem mV (a0:Option Addr)(c0:Nat)(a1:Option Addr)(n1 c1:Nat)(t:ByteArray)(w:World):Calls Tryz.prog 84 #[.agg #[.slice a0 0 c0,.slice a1 n1 c1],.string t] w fun e w'=>e=.returned (.int .i64 (-1))/\Below w.heap.size w w':=by
 have b:=ae ((q9 w).alloc ly (.cells #[.slice a0 0 c0,.slice a1 n1 c1] 26));go_enter Tryz.func84,Tryz.ntmps84;go_wp2;go_loop [5] (fun i=>i=.int .i64 0) (fun _=>0);case atStart=>rfl
 case round =>subst hrel;go_wp2;go_ret;exact⟨rfl,b.out⟩
theorem dG (a0:Option Addr)(n0 c0:Nat)(a1:Option Addr)(n1 c1:Nat)(f:Nat->Source)(t:ByteArray)(w:World)(hn:(n0:Int)<=1048576)(c:SlSource w a0 n0 f):Calls Tryz.prog 84 #[.agg #[.slice a0 n0 c0,.slice a1 n1 c1],.string t] w fun e w'=>e=.returned (.int .i64 (cZ (atI (nm0 f) n0 t)))/\Below w.heap.size w w':=by
 rcases c with rfl | ⟨b,off,rfl,d⟩
 ·exact mV a0 c0 a1 n1 c1 t w
 ·exact mU b off n0 c0 a1 n1 c1 f t w hn d
theorem mW (a0:Option Addr)(n0 c0 b off n1 c1:Nat)(f:Nat->Target)(t:ByteArray)(w:World)(hn:(n1:Int)<=1048576)(j:RowTarget w b off n1 f):Calls Tryz.prog 85 #[.agg #[.slice a0 n0 c0,.slice (some ⟨b,off,none⟩) n1 c1],.string t] w fun e w'=>e=.returned (.int .i64 (cZ (atI (nm1 f) n1 t)))/\Below w.heap.size w w':=by
 have c:=ae ((q9 w).alloc ly (.cells #[.slice a0 n0 c0,.slice (some ⟨b,off,none⟩) n1 c1] 26));have m:=ae (j.below c.out ly);have n:(w.alloc (.cells #[.slice a0 n0 c0,.slice (some ⟨b,off,none⟩) n1 c1] 26)).cell? ⟨w.heap.size,1,none⟩=some (.slice (some ⟨b,off,none⟩) n1 c1):=by simp
 clear j;obtain⟨R,hR⟩:∃ R,R=cZ (atI (nm1 f) n1 t):=⟨_,rfl⟩
 rw[<-hR];have l:=ae hR;clear hR;go_enter Tryz.func85,Tryz.ntmps85;go_wp2;generalize w.alloc (.cells #[.slice a0 n0 c0,.slice (some ⟨b,off,none⟩) n1 c1] 26)=W at c m n ⊢;go_loop [5] (fun i=>∃ k:Nat,k<=n1/\i=.int .i64 k/\Hid (bS (nm1 f) k t=false)) (fun i=>n1 - (intOf i).toNat);case atStart=>exact⟨0,by omega,rfl,rfl⟩
 case round =>
  obtain⟨k,hk,rfl,g⟩:=hrel;by_cases d:k<n1
  ·obtain⟨d0,ka,kc,d1,_⟩:=m.out.2 k d
   cases hb:((f k).name.toList == t.toList) with
   | true =>have h:=ae hb;go_wp2;go_ret;exact⟨by rw[l.out,nW d h.out g.out];rfl,c.out⟩
   | false =>have h:=ae hb;go_wp2;exact⟨⟨k+1,by omega,by go_num,by show bS (nm1 f) (k+1) t=false;rw[ij,g.out];exact h.out⟩,by simp[intOf];omega⟩
  ·have e:k=n1:=by omega
   subst e;go_wp2;go_ret;exact⟨by rw[l.out,qb g.out];rfl,c.out⟩
theorem mX (a0:Option Addr)(n0 c0:Nat)(a1:Option Addr)(c1:Nat)(t:ByteArray)(w:World):Calls Tryz.prog 85 #[.agg #[.slice a0 n0 c0,.slice a1 0 c1],.string t] w fun e w'=>e=.returned (.int .i64 (-1))/\Below w.heap.size w w':=by
 have b:=ae ((q9 w).alloc ly (.cells #[.slice a0 n0 c0,.slice a1 0 c1] 26));go_enter Tryz.func85,Tryz.ntmps85;go_wp2;go_loop [5] (fun i=>i=.int .i64 0) (fun _=>0);case atStart=>rfl
 case round =>subst hrel;go_wp2;go_ret;exact⟨rfl,b.out⟩
theorem dP (a0:Option Addr)(n0 c0:Nat)(a1:Option Addr)(n1 c1:Nat)(f:Nat->Target)(t:ByteArray)(w:World)(hn:(n1:Int)<=1048576)(c:SlTarget w a1 n1 f):Calls Tryz.prog 85 #[.agg #[.slice a0 n0 c0,.slice a1 n1 c1],.string t] w fun e w'=>e=.returned (.int .i64 (cZ (atI (nm1 f) n1 t)))/\Below w.heap.size w w':=by
 rcases c with rfl | ⟨b,off,rfl,d⟩
 ·exact mX a0 n0 c0 a1 c1 t w
 ·exact mW a0 n0 c0 b off n1 c1 f t w hn d
theorem ku (m:SM):(smV m).length=6:=rfl
theorem bC {w:World}{b g cap:Nat}{L:List SM}(h:w.ownsRow b 236 6 (.slice (some ⟨g,0,none⟩) L.length cap) L.length (L.flatMap smV)){i:Nat}{m:SM}(k:L[i]?=some m)(j:Nat)(d:j<6){u:Value}(f:(smV m)[j]?=some u):w.cell? ⟨g,i*6+j,none⟩=some u:=by have c:=h.cells (g:=g) rfl (i*6+j) u (by rw[bZ smV 6 ku L i j d m k];exact f);rw[addr_add,Nat.zero_add] at c;exact c
theorem qd {L:List SM}{k:Nat}{t:ByteArray}{m:SM}(b:L[k]?=some m)(d:(m.name.toList == t.toList)=true)(h:∀ (j:Nat) (m:SM),j<k->L[j]?=some m->(m.name.toList == t.toList)=false):fI L t=some k:=by have f:=(List.getElem?_eq_some_iff.1 b).1;have c:=(List.getElem?_eq_some_iff.1 b).2;unfold fI;rw[List.findIdx?_eq_some_iff_getElem];refine⟨f,by rw[c];exact d,fun j g=>?_⟩;rw[Bool.not_eq_true];exact h j _ g (gq (by omega))
theorem sd {L:List SM}{t:ByteArray}(d:∀ (j:Nat) (m:SM),j<L.length->L[j]?=some m->(m.name.toList == t.toList)=false):fI L t=none:=by unfold fI;rw[List.findIdx?_eq_none_iff];intro m c;obtain⟨j,b⟩:=List.getElem?_of_mem c;exact d j m (List.getElem?_eq_some_iff.1 b).1 b
section
variable {w0:World}{hb:Nat}{s0 s1 md or st:Value}{making:List ByteArray}{made:List Ent}{L:List SM}
theorem qe (w:World)(t:ByteArray)(q:Nat)(c2:w.cell? ⟨hb,2,none⟩=some md)(d:w.ownsRow q 236 6 md L.length (L.flatMap smV))(hL:L.length<=100000):Calls Tryz.prog 178 #[.pointer (some ⟨hb,0,none⟩),.string t] w fun e w'=>e=.returned (.int .i64 (cZ (fI L t)))/\w'=w:=by
 obtain⟨R,hR⟩:∃ R,R=cZ (fI L t):=⟨_,rfl⟩
 rw[<-hR];have x:=ae hR;have l:=ae d;obtain⟨a,c,rfl⟩:∃ a c,md=.slice a L.length c:=by
  obtain⟨_,⟨rfl,e⟩ | ⟨g,cap,y,rfl,_⟩⟩:=d
  ·exact⟨none,0,by rw[e]⟩
  ·exact⟨_,_,rfl⟩
 obtain⟨n,hn⟩:∃ n,n=L.length:=⟨_,rfl⟩
 have o:=ae hn;rw[<-hn] at c2 hL;clear d hR hn;go_enter Tryz.func178,Tryz.ntmps178;go_wp2;go_loop [5] (fun i=>∃ k:Nat,k<=n/\i=.int .i64 k/\Hid (∀ (j:Nat) (m:SM),j<k->L[j]?=some m->(m.name.toList == t.toList)=false)) (fun i=>n - (intOf i).toNat);case atStart=>exact⟨0,by omega,rfl,fun j m s=>absurd s (Nat.not_lt_zero _)⟩
 case round =>
  obtain⟨k,hk,rfl,p⟩:=hrel;by_cases hlt:k<n
  ·obtain⟨m,b⟩:∃ m,L[k]?=some m:=⟨_,gq (by have:=o.out;omega)⟩
   obtain⟨g,cap,y,e,-⟩:=l.out.2.resolve_left (fun h=>by have:=o.out;omega);simp only[Value.slice.injEq,true_and] at e;obtain⟨rfl,rfl⟩:=e;have d0:w.cell? ⟨g,k*6,none⟩=some (.string m.name):=bC l.out b 0 (by omega) rfl;have u:=ae b;have hI:(k:Int)<(n:Int):=by omega
   clear b;cases hb2:(m.name.toList == t.toList) with
   | true =>have r:=ae hb2;go_wp2;go_ret;exact⟨by rw[x.out,qd u.out r.out p.out];rfl,rfl⟩
   | false =>
    have r:=ae hb2;go_wp2;refine⟨⟨k+1,by omega,by go_num,fun j z s f=>?_⟩,by simp[intOf];omega⟩;by_cases e:j=k
    ·subst e;rw[u.out] at f;cases f;exact r.out
    ·exact p.out j z (by omega) f
  ·have e:k=n:=by omega
   subst e;go_wp2;go_ret;exact⟨by rw[x.out,sd (fun j m s b=>p.out j m (by have:=o.out;omega) b)];rfl,rfl⟩
theorem fP (w:World)(t:ByteArray)(h:SI w0 hb s0 s1 w making made L md or st)(hL:L.length<=100000):Calls Tryz.prog 178 #[.pointer (some ⟨hb,0,none⟩),.string t] w fun e w'=>e=.returned (.int .i64 (cZ (fI L t)))/\w'=w:=by obtain⟨-,-,-,c2,-⟩:=h.box.facts;exact qe w t w0.heap.size c2 h.rmd hL
end
structure ju (w0:World)(S:Spc)(a0:Option Addr)(a1:Option Addr):Prop where
 src:SlSource w0 a0 S.n0 S.f0
 tgt:SlTarget w0 a1 S.n1 S.f1
 ok:SpcOk S
def iN (w0:World)(hb:Nat)(w':World)(r:iI)(b:Value):Prop:=∃ s0 s1 md or st,ShBox w' hb s0 s1 md or st r.code r.text b true/\w'.ownsRow w0.heap.size 9 1 b r.chain.length (bR r.chain)
structure LExt (n:Nat)(L L':List SM):Prop where
 nam:∀ (i:Nat) (m:SM),L[i]?=some m->∃ m':SM,L'[i]?=some m'/\m'.name=m.name
 sn:∀ m∈L',m.done=true->(∃ m0∈L,m0.done=true/\m0.sv=m.sv)∨∀ k,m.sv.ownBlock=some k->n<=k
theorem LExt.refl (n:Nat)(L:List SM):LExt n L L:=⟨fun _ m h=>⟨m,h,rfl⟩,fun m c b=>.inl ⟨m,c,b,rfl⟩⟩
theorem LExt.trans {n o:Nat}{L q c:List SM}(h:LExt n L q)(k:LExt o q c)(hn:n<=o):LExt n L c:=by
 refine⟨fun i m f=>?_,fun m f r=>?_⟩
 ·obtain⟨g,b,d⟩:=h.nam i m f
  obtain⟨u,s,t⟩:=k.nam i g b;exact⟨u,s,t.trans d⟩
 ·rcases k.sn m f r with ⟨m0,x,l,e⟩ | b
  ·rcases h.sn m0 x l with ⟨g,b,p,d⟩ | b
   ·exact .inl ⟨g,b,p,d.trans e⟩
   ·exact .inr fun k j=>b k (by rw[e];exact j)
  ·exact .inr fun k j=>Nat.le_trans hn (b k j)
theorem LExt.mono {n b:Nat}{L c:List SM}(h:LExt n L c)(hn:b<=n):LExt b L c:=⟨h.nam,fun m g d=>(h.sn m g d).imp id fun h k f=>Nat.le_trans hn (h k f)⟩
def eP (c:List ByteArray):iI:=⟨6,⟨#[]⟩,c⟩
def eQ (d:ByteArray):iI:=⟨7,d,[]⟩
def fF (r:iI)(b:Value):Value:=.agg #[.int .i64 r.code,.string r.text,b]
def gX (w0:World)(hb:Nat)(s0 s1:Value)(making:List ByteArray)(L:List SM)(w:World)(e:Ending)(w':World):Out Ent->Prop
 | .inl (made',x)=>∃ b h f g,e=.returned (.agg #[.int .i64 (cY x).code,.string (cY x).text,.slice none 0 0])/\SI w0 hb s0 s1 w' making made' b h f g/\eB b making made'/\LExt w.heap.size L b/\KS w0.heap.size XN w w'
 | .inr (.inl c)=>∃ a k,e=.returned (fF (eP c) (.slice a c.length k))/\iN w0 hb w' (eP c) (.slice a c.length k)/\KS w0.heap.size XN w w'
 | .inr (.inr d)=>e=.returned (fF (eQ d) (.slice none 0 0))/\iN w0 hb w' (eQ d) (.slice none 0 0)/\KS w0.heap.size XN w w'
def dZ (S:Spc)(making:List ByteArray)(made:List Ent)(k:Nat):Prop:=made.length+201*dC S making made+k<=50000
def MT (S:Spc)(making:List ByteArray):Prop:=∀ t∈making,(atI (nm1 S.f1) S.n1 t).isSome=true
def j4 (w0:World)(S:Spc)(hb:Nat)(s0 s1:Value)(n:Nat):Prop:=∀ making made L md or st w nm,making.length+n=60->SI w0 hb s0 s1 w making made L md or st->eB L making made->PG S making made->dZ S making made 1->MT S making->aw nm=true ->
 Calls Tryz.prog 155 #[.pointer (some ⟨hb,0,none⟩),.string nm] w fun e w'=>gX w0 hb s0 s1 making L w e w' (bv S n making made nm)
theorem ey {e:TypeId}{z:Value}{a b:Nat}(h:(Tryz.prog.info? e).map (fun i=>(i.zero,i.size,i.bytes))=some (some z,a,b)):∃ i,Tryz.prog.info? e=some i/\i.zero=some z/\i.size=a/\i.bytes=b:=by
 cases hi:Tryz.prog.info? e with
 | none=>rw[hi] at h;cases h
 | some i =>rw[hi] at h;simp only[Option.map_some,Option.some.injEq,Prod.mk.injEq] at h;exact⟨i,rfl,h⟩
theorem fQ:(Tryz.prog.info? 9).map (fun i=>(i.zero,i.size,i.bytes))=some (some (.string ⟨#[]⟩),1,16):=by kernel_rfl
theorem tF:(Tryz.prog.info? 75).map (fun i=>(i.zero,i.size,i.bytes))=some (some (.agg #[.bool false,.int .i64 0,.string ⟨#[]⟩]),3,32):=by kernel_rfl
theorem wW:(Tryz.prog.info? 239).map (fun i=>(i.zero,i.size,i.bytes))=some (some (.agg #[.string ⟨#[]⟩,.bool false,.bool false]),3,24):=by kernel_rfl
theorem jv:(Tryz.prog.info? 236).map (fun i=>(i.zero,i.size,i.bytes))=some (some (.agg #[.string ⟨#[]⟩,.int .i64 0,.string ⟨#[]⟩,.slice none 0 0,.slice none 0 0,.bool false]),6,96):=by kernel_rfl
def gY (b:List aC):List Value:=b.flatMap fun r=>[.bool r.has,.int .i64 r.code,.string r.text]
theorem wX (b:List aC)(r:aC):gY (b++[r])=gY b++[.bool r.has,.int .i64 r.code,.string r.text]:=by simp[gY]
theorem uP (b:List Lk)(l:Lk):df (b++[l])=df b++[.string l.name,.bool l.ask,.bool l.has]:=by simp[df]
theorem yr {w:World}{f g c:Nat}{b:List aC}(h:w.ownsRow f 75 3 (.slice (some ⟨g,0,none⟩) b.length c) b.length (gY b)):RowReply w g 0 b.length (yL b):=by
 obtain⟨_,o,cs,hc⟩:=ah h g rfl;refine⟨o,fun i hi=>?_⟩;have l:b[i]?=some (yL b i):=by simp[yL,gq hi]
 have d:∀ j u,j<3->([Value.bool (yL b i).has,.int .i64 (yL b i).code,.string (yL b i).text]:List Value)[j]?=some u->w.cell? ⟨g,i*3+j,none⟩=some u:=fun j u m n=>by have k:=h.cells (g:=g) rfl (i*3+j) u (by rw[gY,bZ (fun r:aC=>[.bool r.has,.int .i64 r.code,.string r.text]) 3 (fun _=>rfl) b i j m _ l];exact n);rw[addr_add,Nat.zero_add] at k;exact k
 refine⟨?_,?_,?_⟩
 ·rw[Nat.zero_add];exact d 0 _ (by omega) rfl
 ·rw[Nat.zero_add];exact d 1 _ (by omega) rfl
 ·rw[Nat.zero_add];exact d 2 _ (by omega) rfl
theorem iO (w:World)(e:TypeId)(size:Nat):(w.alloc (.cells #[] e)).ownsRow w.heap.size e size (.slice (some ⟨w.heap.size,0,none⟩) 0 0) 0 [] :=
 ⟨by simp,.inr ⟨w.heap.size,0,#[],rfl,Nat.le_refl _,heap_alloc_new _ _,Nat.le_refl _,Nat.zero_le _,by simp,by simp⟩⟩
theorem uQ {S:Spc}(g:SpcOk S){tg:Nat}(h:tg<S.n1){b:List aC}(d:∀ y∈b,cP y=true)(hl:b.length<=200):oH (S.f1 tg).act (S.f1 tg).actN (yL b) b.length=ci S tg b:=by
 unfold oH;have f:bO (yL b) b.length=true:=by
  have:∀ k,bO (yL b) k=true:=fun k=>by
   induction k with
   | zero=>rfl
   | succ k c=>rw[bO,c,xA d k];rfl
  exact this _
 rw[if_neg (by rw[g.act tg h];simp),if_neg (by omega),if_neg (by rw[f];simp)];rfl
theorem wY {S:Spc}(c:SpcOk S){tg:Nat}(d:tg<S.n1):∀ i,i<(S.f1 tg).actN->((S.f1 tg).act i).s.size<=maxLen:=fun i hi=>by
 have b:=j8 (cH (c.act tg d)).1 hi;simp only[cC,decide_eq_true_eq] at b;obtain⟨i1,i2,i3,i4,i5⟩:=b;have hmt2:bF ((S.f1 tg).act i).op<=2000:=by unfold bF;split<;>omega
 unfold maxLen;omega
section
variable {w0:World}{S:Spc}{a0 a1:Option Addr}{c0 c1 hb:Nat}{md or st:Value}{making:List ByteArray}{made:List Ent}{L:List SM}
theorem lF (C:ju w0 S a0 a1)(w:World)(t:ByteArray)(c:Below w0.heap.size w0 w)(m:hb<w.heap.size)(h:w.cell? ⟨hb,0,none⟩=some (.slice a0 S.n0 c0))(j:w.cell? ⟨hb,1,none⟩=some (.slice a1 S.n1 c1)):Calls Tryz.prog 222 #[.pointer (some ⟨hb,0,none⟩),.string t] w fun e w'=>e=.returned (.bool (iH S t))/\Below w.heap.size w w':=by
 have r:=ae C;have l:=ae c;have hsm:=C.ok.small;obtain⟨R,hR⟩:∃ R,R=iH S t:=⟨_,rfl⟩
 rw[<-hR];have k:Hid (R=((atI (nm0 S.f0) S.n0 t).isSome || (atI (nm1 S.f1) S.n1 t).isSome)):=by show _=_;rw[hR];unfold iH;rw[gd,gd]
 clear C c hR;go_enter Tryz.func222,Tryz.ntmps222;go_wp2_with fail;refine(dG a0 S.n0 c0 a1 S.n1 c1 S.f0 t w (by omega) (r.out.src.below l.out ly)).mono ?_;rintro e n ⟨rfl,b⟩;have u:=(b.cell (p:=⟨hb,0,none⟩) m).trans h;have s:=(b.cell (p:=⟨hb,1,none⟩) m).trans j;have hl1:hb<n.heap.size:=lj m b.size;have g:=ae b;clear b h j;cases h0:atI (nm0 S.f0) S.n0 t with
 | some i =>
  have f:=ae h0;clear h0;have q:(0:Int)<=(i:Int):=by omega
  simp only[cZ];go_wp2;go_ret;exact⟨by rw[k.out,f.out];rfl,g.out⟩
 | none =>
  have f:=ae h0;clear h0;simp only[cZ];go_wp2_with fail;refine(dP a0 S.n0 c0 a1 S.n1 c1 S.f1 t n (by omega) (r.out.tgt.below (l.out.trans (g.out.mono l.out.size)) ly)).mono ?_;rintro e w2 ⟨rfl,b⟩;have o:=ae (g.out.trans (b.mono g.out.size));clear b u s;cases h1:atI (nm1 S.f1) S.n1 t with
  | some i =>
   have d:=ae h1;clear h1;have q:(0:Int)<=(i:Int):=by omega
   simp only[cZ];go_wp2;go_ret;exact⟨by rw[k.out,f.out,d.out];simp,o.out⟩
  | none =>have d:=ae h1;clear h1;simp only[cZ];go_wp2;go_ret;exact⟨by rw[k.out,f.out,d.out];rfl,o.out⟩
end
end Go.Proofs.YtkophfgkcijjkaaGreatDoor.Vp
