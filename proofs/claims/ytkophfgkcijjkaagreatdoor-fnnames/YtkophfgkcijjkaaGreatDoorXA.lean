import Derived.Test.YtkophfgkcijjkaaGreatDoorYR
import Derived.Test.YtkophfgkcijjkaaGreatDoorZU
import Derived.Maps.OwnSet
import Derived.Maps.Views
import Derived.Maps.RangeWalk
import Derived.StringKeys
import Derived.DeepKeys4
namespace Go.Proofs.YtkophfgkcijjkaaGreatDoor.Vp
open RowKit Go.Maps
def yq (v:Value):Option (DataW Value × List MemPlace):=some (.held v,[])
def MapN (w:World)(b n:Nat)(G:List UInt8->Option Value):Prop :=
 ∃ D:DataW Value,w.ownsMap Tryz.prog 9 yq b n D/\∀ s,Maps.has D (.string s)=(G s).isSome/\∀ v,G s=some v->∀ c,D.atKey (.string s) c=.held v
theorem MapN.lt {w:World}{b n:Nat}{G:List UInt8->Option Value}(h:MapN w b n G):b<w.heap.size:=by obtain⟨D,c,-⟩:=h;exact c.lt
theorem MapN.isMap {w:World}{b n:Nat}{G:List UInt8->Option Value}(h:MapN w b n G):∃ f c,w.heap[b]?=some (.map f c):=by obtain⟨D,⟨f,d,g,-⟩,-⟩:=h;exact⟨f,d,g⟩
theorem MapN.blk {w w':World}{b n:Nat}{G:List UInt8->Option Value}(h:MapN w b n G)(hb:w'.heap[b]?=w.heap[b]?):MapN w' b n G:=by obtain⟨D,⟨d,c,f,r⟩,g⟩:=h;exact⟨D,⟨d,c,hb.trans f,r⟩,g⟩
theorem MapN.mono {w:World}{b n c:Nat}{G:List UInt8->Option Value}(h:MapN w b n G)(hn:n<=c):MapN w b c G:=by obtain⟨D,d,f⟩:=h;exact⟨D,d.mono hn,f⟩
theorem MapN.congr {w:World}{b n:Nat}{G c:List UInt8->Option Value}(h:MapN w b n G)(d:∀ s,G s=c s):MapN w b n c:=by obtain rfl:G=c:=funext d;exact h
section
variable (w:World){ops:Array Oper}{rest:List Oper}{o:Oper}{a:Act}{Q:Exit->Act->World->Prop}
end
end Go.Proofs.YtkophfgkcijjkaaGreatDoor.Vp
namespace Go.Proofs.YtkophfgkcijjkaaGreatDoor.Vp
open RowKit
structure KX (B:Nat)(X:Nat->Prop)(w w':World):Prop where
 below:Below B w w'
 blk:∀ i cs t fz,w.heap[i]?=some (.cells cs t fz)->t≠9->t≠135->t≠192->¬ X i->w'.heap[i]?=w.heap[i]?
def XN:Nat->Prop:=fun _=>False
theorem af {w:World}{i:Nat}{o:Obj}(h:w.heap[i]?=some o):i<w.heap.size:=by
 rcases Nat.lt_or_ge i w.heap.size with b | b
 ·exact b
 ·rw[Array.getElem?_eq_none b] at h;cases h
theorem KX.refl (B:Nat)(X:Nat->Prop)(w:World):KX B X w w:=⟨Below.refl _ _,fun _ _ _ _ _ _ _ _ _=>rfl⟩
theorem KX.trans {B:Nat}{X Y:Nat->Prop}{w w' b:World}(h:KX B X w w')(k:KX B Y w' b)(f:∀ i,i<w.heap.size->Y i->X i):KX B X w b :=
 ⟨h.below.trans k.below,fun i g t fz hi j d c hX=>by
  have e:=h.blk i g t fz hi j d c hX;rw[<-e]
  exact k.blk i g t fz (e.trans hi) j d c fun l=>hX (f i (af hi) l)⟩
theorem KX.to {B:Nat}{w w' b:World}{X:Nat->Prop}(h:KX B X w w')(k:KX B XN w' b):KX B X w b:=h.trans k fun _ _ h=>h.elim
theorem KX.of_below {B C:Nat}{X:Nat->Prop}{w w':World}(h:Below C w w')(b:w.heap.size<=C)(c:B<=w.heap.size):KX B X w w' :=
 ⟨h.mono (Nat.le_trans c b),fun i _ _ _ hi _ _ _ _=>h.block i (lj (af hi) b)⟩
theorem KX.of_only {B b:Nat}{X:Nat->Prop}{w w':World}(h:Only b w w')(hX:X b)(d:B<=w.heap.size)(hb:B<=b):KX B X w w' :=
 ⟨h.below hb d,fun i _ _ _ hi _ _ _ c=>h.block i (af hi) fun e=>c (e ▸ hX)⟩
theorem KX.of_grown {B:Nat}{X:Nat->Prop}{row:Option Nat}{w w':World}(h:w.grownBy w' row)(n:B<=w.heap.size)(d:∀ j,row=some j->B<=j/\(X j∨∀ c t fz,w.heap[j]?=some (.cells c t fz)->t=9∨t=135∨t=192)):KX B X w w':=by
 refine⟨⟨h.os,h.tape,h.output,h.size,fun k l=>h.block k (lj l n) fun e=>?_⟩,fun i c t fz hi m g f hX=>h.block i (af hi) fun e=>?_⟩
 ·have:=(d k e.symm).1
  omega
 ·rcases(d i e.symm).2 with b | b
  ·exact hX b
  ·rcases b c t fz hi with e | e | e
   ·exact m e
   ·exact g e
   ·exact f e
theorem av {w:World}{b j:Nat}{c:Array Value}{t:TypeId}(h:w.heap[b]?=some (.cells c t (0,0)))(v:Value):(w.setCell ⟨b,j,none⟩ v).heap[b]?=some (.cells (c.setIfInBounds j v) t (0,0)):=by simp only[World.setCell,Array.getElem?_modify,if_pos,h,Option.map_some];rfl
theorem KX.setCell {B:Nat}{X:Nat->Prop}(w:World){b j:Nat}(hb:B<=b)(c:X b∨∀ d t fz,w.heap[b]?=some (.cells d t fz)->t=9∨t=135∨t=192)(v:Value):KX B X w (w.setCell ⟨b,j,none⟩ v):=by
 refine⟨(Below.refl B w).setCell hb v,fun i d t fz hi h g f hX=>?_⟩;refine qh _ _ _ _ fun e=>?_;simp at e;subst e;rcases c with c | c
 ·exact hX c
 ·rcases c d t fz hi with e | e | e
  ·exact h e
  ·exact g e
  ·exact f e
def MkBox (w:World)(mb:Nat)(s0 s1:Value)(mp:Nat)(mk md:Value):Prop:=w.heap[mb]?=some (.cells #[s0,s1,.map (some mp),mk,md] 192 (0,0))
theorem MkBox.facts {w:World}{mb mp:Nat}{s0 s1 mk md:Value}(h:MkBox w mb s0 s1 mp mk md):mb<w.heap.size/\w.cell? ⟨mb,0,none⟩=some s0/\w.cell? ⟨mb,1,none⟩=some s1/\w.cell? ⟨mb,2,none⟩=some (.map (some mp))/\w.cell? ⟨mb,3,none⟩=some mk/\w.cell? ⟨mb,4,none⟩=some md/\∀ j,w.frozen? ⟨mb,j,none⟩=false:=by unfold MkBox at h;refine⟨af h,?_,?_,?_,?_,?_,fun j=>?_⟩;all_goals simp[World.cell?,World.frozen?,h]
theorem MkBox.set3 {w:World}{mb mp:Nat}{s0 s1 mk md:Value}(h:MkBox w mb s0 s1 mp mk md)(v:Value):MkBox (w.setCell ⟨mb,3,none⟩ v) mb s0 s1 mp v md:=av h v
theorem MkBox.set4 {w:World}{mb mp:Nat}{s0 s1 mk md:Value}(h:MkBox w mb s0 s1 mp mk md)(v:Value):MkBox (w.setCell ⟨mb,4,none⟩ v) mb s0 s1 mp mk v:=av h v
theorem MkBox.blk {w w':World}{mb mp:Nat}{s0 s1 mk md:Value}(h:MkBox w mb s0 s1 mp mk md)(hb:w'.heap[mb]?=w.heap[mb]?):MkBox w' mb s0 s1 mp mk md:=hb.trans h
def bR (L:List ByteArray):List Value:=L.map .string
def yS (G:ByteArray->Nat)(made:List Ent):List Value:=made.map fun x=>.pointer (some ⟨G x.name,0,none⟩)
def lE (G:ByteArray->Nat)(l:Lk):List Value:=[.string l.name,.bool l.ask,.bool l.has,.int .i64 0,.pointer (if l.ask=true then some ⟨G l.name,0,none⟩ else none)]
def gF (G:ByteArray->Nat)(b:List Lk):List Value:=b.flatMap (lE G)
theorem kN {G c:ByteArray->Nat}{b:List Lk}(h:∀ l∈b,l.ask=true->c l.name=G l.name):gF c b=gF G b:=by
 induction b with
 | nil=>rfl
 | cons l b d =>
  have e:lE c l=lE G l:=by
   unfold lE;cases ha:l.ask with
   | false=>rfl
   | true=>rw[h l List.mem_cons_self ha]
  have:=d fun l f=>h l (mq _ f);simp only[gF,List.flatMap_cons] at this ⊢;rw[e,this]
def zq (G:ByteArray->Nat)(b:List ByteArray)(made:List Ent)(s:List UInt8):Option Value :=
 match made.find? (fun e=>e.name.toList == s) with
 | some e=>some (.agg #[.int .i64 0,.pointer (some ⟨G e.name,0,none⟩)])
 | none=>(b.findIdx? fun x=>x.toList == s).map fun(i:Nat)=>.agg #[.int .i64 (i:Int),.pointer none]
def EntBlk (w:World)(b:Nat)(nm:ByteArray)(kind code:Int)(text:ByteArray)(act c:Value)(place:Int):Prop :=
 w.heap[b]?=some (.cells #[.string nm,.int .i64 kind,.int .i64 code,.string text,act,.slice none 0 0,c,.int .i64 place] 138 (0,0))
def zt (w0:World)(S:Spc)(kind:Int)(tg:Nat)(act:Value):Prop :=
 if kind=3 then tg<S.n1/\∃ a cap,act=.slice a (S.f1 tg).actN cap/\SlIns w0 a (S.f1 tg).actN (S.f1 tg).act else act=.slice none 0 0
structure EntAt (w0:World)(S:Spc)(G:ByteArray->Nat)(w:World)(b:Nat)(v:Value)(x:Ent):Prop where
 blk:∃ act,EntBlk w b x.name x.kind x.code x.text act v 0/\zt w0 S x.kind x.tg act
 ge:w0.heap.size<=b
 row:w.ownsRow w0.heap.size 214 5 v x.looks.length (gF G x.looks)
theorem bB {w w':World}{b size n:Nat}{e:TypeId}{v:Value}{c:List Value}(h:w.ownsRow b e size v n c)(hb:∀ k,v.ownBlock=some k->w'.heap[k]?=w.heap[k]?):w'.ownsRow b e size v n c:=by
 obtain⟨d,j | ⟨g,cap,f,rfl,i,l,m⟩⟩:=h
 ·exact⟨d,.inl j⟩
 ·exact⟨d,.inr ⟨g,cap,f,rfl,i,(hb g rfl).trans l,m⟩⟩
theorem ah {w:World}{b size n:Nat}{e:TypeId}{v:Value}{l:List Value}(h:w.ownsRow b e size v n l):∀ k,v.ownBlock=some k->b<=k/\k<w.heap.size/\∃ j,w.heap[k]?=some (.cells j e (0,0)):=by
 intro k d;obtain⟨h1,⟨rfl,_⟩ | ⟨g,cap,f,rfl,i,c,h5⟩⟩:=h
 ·cases d
 ·cases d
  exact⟨i,af c,f,c⟩
theorem EntAt.kx {w0 w w':World}{S:Spc}{G:ByteArray->Nat}{b:Nat}{v:Value}{x:Ent}{X:Nat->Prop}{B:Nat}(h:EntAt w0 S G w b v x)(f:KX B X w w')(m:¬ X b)(l:∀ k,v.ownBlock=some k->¬ X k):EntAt w0 S G w' b v x:=by obtain⟨⟨act,hb,g⟩,i,d⟩:=h;refine⟨⟨act,(f.blk b _ _ _ hb (by decide) (by decide) (by decide) m).trans hb,g⟩,i,bB d fun k c=>?_⟩;obtain⟨_,_,cs,j⟩:=ah d k c;exact f.blk k _ _ _ j (by decide) (by decide) (by decide) (l k c)
structure MIg (w0:World)(S:Spc)(mb mp:Nat)(s0 s1:Value)(w:World)(cnt:Nat)(F:List UInt8->Option Value)(nk:Nat)(ks:List Value)(np:Nat)(ps:List Value)(made:List Ent)(G:ByteArray->Nat)(V:ByteArray->Value)(mk md:Value):Prop where
 bel:Below w0.heap.size w0 w
 mbB:w0.heap.size<=mb
 mpB:w0.heap.size<=mp
 box:MkBox w mb s0 s1 mp mk md
 rmk:w.ownsRow w0.heap.size 9 1 mk nk ks
 rmd:w.ownsRow w0.heap.size 135 1 md np ps
 map:MapN w mp cnt F
 ents:∀ x∈made,EntAt w0 S G w (G x.name) (V x.name) x
 dist:made.Pairwise fun x y=>G x.name≠G y.name
abbrev MI (w0:World)(S:Spc)(mb mp:Nat)(s0 s1:Value)(w:World)(c b:List ByteArray)(made:List Ent)(G:ByteArray->Nat)(V:ByteArray->Value)(mk md:Value):Prop :=
 MIg w0 S mb mp s0 s1 w (2*made.length+c.length) (zq G c made) b.length (bR b) made.length (yS G made) made G V mk md
section
variable {w0 w w':World}{S:Spc}{mb mp:Nat}{s0 s1 mk md:Value}{cnt nk np:Nat}{F:List UInt8->Option Value}{ks ps:List Value}{made:List Ent}{G:ByteArray->Nat}{V:ByteArray->Value}
theorem MIg.lt (h:MIg w0 S mb mp s0 s1 w cnt F nk ks np ps made G V mk md):w0.heap.size<=w.heap.size:=h.bel.size
theorem MIg.below {C:Nat}(h:MIg w0 S mb mp s0 s1 w cnt F nk ks np ps made G V mk md)(hb:Below C w w')(b:w.heap.size<=C):MIg w0 S mb mp s0 s1 w' cnt F nk ks np ps made G V mk md :=
 have f:KX w0.heap.size XN w w':=KX.of_below hb b h.lt;have d:∀ i o,w.heap[i]?=some o->w'.heap[i]?=w.heap[i]?:=fun i o hi=>hb.block i (lj (af hi) b)
 ⟨h.bel.trans f.below,h.mbB,h.mpB,h.box.blk (d _ _ h.box),own_below h.rmk hb b,own_below h.rmd hb b,h.map.blk (by obtain⟨es,c,j⟩:=h.map.isMap;exact d _ _ j),fun x g=>(h.ents x g).kx f (fun h=>h) (fun _ _ h=>h),h.dist⟩
theorem MIg.kx {X:Nat->Prop}(h:MIg w0 S mb mp s0 s1 w cnt F nk ks np ps made G V mk md)(l:KX w0.heap.size X w w')(b:∀ i o,w.heap[i]?=some o->¬ X i->w'.heap[i]?=w.heap[i]?)(s:¬ X mb)(p:¬ X mp)(m:∀ k,mk.ownBlock=some k->¬ X k)(r:∀ k,md.ownBlock=some k->¬ X k)(j:∀ x∈made,¬ X (G x.name)/\∀ k,(V x.name).ownBlock=some k->¬ X k):MIg w0 S mb mp s0 s1 w' cnt F nk ks np ps made G V mk md :=
 ⟨h.bel.trans l.below,h.mbB,h.mpB,h.box.blk (b _ _ h.box s),bB h.rmk (fun k d=>by obtain⟨_,_,q,g⟩:=ah h.rmk k d;exact b _ _ g (m k d)),bB h.rmd (fun k d=>by obtain⟨_,_,q,g⟩:=ah h.rmd k d;exact b _ _ g (r k d)),h.map.blk (by obtain⟨es,c,n⟩:=h.map.isMap;exact b _ _ n p),fun x f=>(h.ents x f).kx l (j x f).1 (j x f).2,h.dist⟩
theorem ay {w:World}{c size n b:Nat}{e:TypeId}{v:Value}{d:List Value}(h:w.ownsRow c e size v n d)(hb:v.ownBlock≠some b)(j:Nat)(u:Value):(w.setCell ⟨b,j,none⟩ u).ownsRow c e size v n d :=
 bB h fun k f=>qh _ _ _ _ fun e=>hb (by rw[f];exact congrArg some e)
theorem ai {w:World}{b:Nat}{i d:Array Value}{t g:TypeId}{f j:Nat × Nat}(h:w.heap[b]?=some (.cells i t f))(c:w.heap[b]?=some (.cells d g j)):t=g:=by rw[h] at c;simp only[Option.some.injEq,Obj.cells.injEq] at c;exact c.2.1
end
structure EU (w0:World)(S:Spc)(w:World)(eb:Nat)(nm:ByteArray)(tg:Nat)(G:ByteArray->Nat)(ls:List Lk)(v:Value)(made:List Ent)(V:ByteArray->Value):Prop where
 blk:∃ a cap,EntBlk w eb nm 3 0 ⟨#[]⟩ (.slice a (S.f1 tg).actN cap) v 0/\SlIns w0 a (S.f1 tg).actN (S.f1 tg).act
 ge:w0.heap.size<=eb
 row:w.ownsRow w0.heap.size 214 5 v ls.length (gF G ls)
 free:∀ x∈made,G x.name≠eb
 apart:∀ x∈made,∀ k,v.ownBlock=some k->(V x.name).ownBlock≠some k
 asked:∀ l∈ls,l.ask=true->∃ x∈made,x.name=l.name
end Go.Proofs.YtkophfgkcijjkaaGreatDoor.Vp
