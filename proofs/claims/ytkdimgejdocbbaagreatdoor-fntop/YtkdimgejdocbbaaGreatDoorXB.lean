import Derived.Test.YtkdimgejdocbbaaGreatDoorYS
import Derived.Test.YtkdimgejdocbbaaGreatDoorZU
import Derived.Maps.OwnSet
import Derived.Maps.Views
import Derived.Maps.RangeWalk
import Derived.StringKeys
import Derived.DeepKeys4
open Go.Addr renaming mk->J
open Go.Value renaming slice->Z,string->U,int->Q,bool->QA
open Option renaming none->Y,some->N
open Go.Obj renaming cells->T
open Go.IntKind renaming i64->I
open Go renaming World->E,Value->QB,TypeId->QF
open Bool renaming true->QC
namespace Go.Proofs.YtkdimgejdocbbaaGreatDoor.Vp
open RowKit Go.Maps
def jV (v:QB):Option (DataW QB × List MemPlace):=N (.held v,[])
theorem px:Keyed Tryz.prog 9:=L8 Tryz.underlying9
def MapN (w:E)(b n:Nat)(G:List UInt8->Option QB):Prop :=
 ∃ QQ:DataW QB,w.ownsMap Tryz.prog 9 jV b n QQ/\∀ s,Maps.has QQ (U s)=(G s).isSome/\∀ v,G s=N v->∀ d,QQ.atKey (U s) d=.held v
theorem AZ (w:E):MapN (w.alloc (.map #[] 0)) w.heap.size 0 (fun _=>Y) :=
 ⟨_,World.ownsMap_made w Tryz.prog 9 jV,fun s=>⟨by simp[Maps.has],fun v h=>by cases h⟩⟩
theorem MapN.isMap {w:E}{b n:Nat}{G:List UInt8->Option QB}(h:MapN w b n G):∃ f c,w.heap[b]?=N (.map f c):=by obtain⟨QQ,⟨f,d,h1,-⟩,-⟩:=h;exact⟨f,d,h1⟩
theorem MapN.blk {w w':E}{b n:Nat}{G:List UInt8->Option QB}(h:MapN w b n G)(hb:w'.heap[b]?=w.heap[b]?):MapN w' b n G:=by obtain⟨QQ,⟨f,d,h1,r⟩,h2⟩:=h;exact⟨QQ,⟨f,d,hb.trans h1,r⟩,h2⟩
theorem MapN.mono {w:E}{b n d:Nat}{G:List UInt8->Option QB}(h:MapN w b n G)(f:n<=d):MapN w b d G:=by obtain⟨QQ,h1,h2⟩:=h;exact⟨QQ,h1.mono f,h2⟩
theorem MapN.congr {w:E}{b n:Nat}{G d:List UInt8->Option QB}(h:MapN w b n G)(f:∀ s,G s=d s):MapN w b n d:=by obtain rfl:G=d:=funext f;exact h
theorem tk {QQ:DataW QB}{G:List UInt8->Option QB}{x:List UInt8}{v:QB}(g:Maps.IsMap QQ)(h:∀ s,Maps.has QQ (U s)=(G s).isSome/\∀ v,G s=N v->∀ b,QQ.atKey (U s) b=.held v):∀ s,Maps.has (QQ.put (U x) (.held v)) (U s)=((if s=x then N v else G s:Option QB)).isSome/\∀ u,(if s=x then N v else G s)=N u->∀ b,(QQ.put (U x) (.held v)).atKey (U s) b=.held u:=by
 intro s;by_cases e:s=x
 ·subst e
  refine⟨?_,fun u d b=>?_⟩
  ·rw[Maps.has_put_same g (by simp[WideAt.IsKeyLit])]
   simp
  ·simp at d
   subst d;exact Maps.atKey_put_same g (by simp[WideAt.IsKeyLit]) _ _
 ·have f:Lit.string s≠.string x:=by simpa using e
  refine⟨?_,fun u d b=>?_⟩
  ·rw[Maps.has_put_other f,a8 e]
   exact(h s).1
  ·rw[a8 e] at d
   rw[Maps.atKey_put_other f];exact(h s).2 u d b
section
variable (w:E){ops:Array Oper}{rest:List Oper}{o:Oper}{a:Act}{QM:Exit->Act->E->Prop}
theorem xt (p:o.guard=Y)(m x v:Operand)(t:QF)(h:o.op=Op.mapUpdate t m x v)(e:QF)(q:Tryz.prog.underlying t=N (.map 9 e))(b n:Nat)(G:List UInt8->Option QB)
  (u:a.eval m=.map (N b)) (g:MapN w b n G) (k:n<maxLen) (d:ByteArray) (f:QB) (A:a.eval x=U d) (z:a.eval v=f) (y:d.size<=maxLen)
  (r:∀ w',MapN w' b (n+1) (fun s=>if s=d.toList then N f else G s)->w.grownBy w' (N b)->wpList Tryz.prog ops QM rest (a.put o.dst undef) w') :
  wpList Tryz.prog ops QM (o :: rest) a w:=by
 obtain⟨QQ,i,l⟩:=g;refine wpList_mapUpdate_own w p m x v t h 9 e px q jV b n QQ u i k (U d) f _ A z (JZ Tryz.underlying9 y) (.held f) [] rfl ?_;intro j h1 h2;refine r j ⟨_,h1,?_⟩ h2;have:=tk (x:=d.toList) (v:=f) i.isMap l;rw[IA] at this ⊢;exact this
theorem iv (h:o.guard=Y)(m x:Operand)(t:QF)(l:o.op=Op.lookup t m x QC)(e:QF)(r:Tryz.prog.underlying t=N (.map 9 e)){z:QB}(hz:(zeroValue e).run Tryz.prog w=.ok z w)(b n:Nat)(G:List UInt8->Option QB)
  (A:a.eval m=.map (N b)) (i:MapN w b n G) (d:ByteArray) (QP:a.eval x=U d) (B:d.size<=maxLen) (u:QB) (p:(G d.toList).getD z=u) (f:Bool) (s:(G d.toList).isSome=f)
  (y:wpList Tryz.prog ops QM rest (a.put o.dst (.tuple #[u,QA f])) w) :
  wpList Tryz.prog ops QM (o :: rest) a w:=by
 obtain⟨QQ,H,j⟩:=i;refine wpList_lookup_own_ok w h m x t l 9 e px r jV hz (.held z) [] rfl b n QQ A H _ _ QP (JZ Tryz.underlying9 B) ?_;intro v ps k;have g:DataW.held v=QQ.atKey (U d.data.toList) (.held z):=by unfold jV at k;simp only[E2,C9] at k;exact k.1
 rw[<-IA] at g ⊢;have q:v=u:=by
  rw[<-p];cases h:G d.toList with
  | none =>
   have C:Maps.has QQ (U d.toList)=false:=by rw[(j _).1,h];rfl
   rw[Maps.atKey_of_not_has C] at g;simpa using g
  | some u =>rw[(j _).2 u h] at g;simpa using g
 rw[(j _).1,s,q];exact y
end
end Go.Proofs.YtkdimgejdocbbaaGreatDoor.Vp
namespace Go.Proofs.YtkdimgejdocbbaaGreatDoor.Vp
open RowKit
structure KX (B:Nat)(X:Nat->Prop)(w w':E):Prop where
 below:Below B w w'
 blk:∀ i cs t fz,w.heap[i]?=N (T cs t fz)->t≠9->t≠124->t≠204->¬ X i->w'.heap[i]?=w.heap[i]?
def XN:Nat->Prop:=fun _=>False
theorem ai {w:E}{i:Nat}{o:Obj}(h:w.heap[i]?=N o):i<w.heap.size:=by
 rcases IX i w.heap.size with b | b
 ·exact b
 ·rw[JF b] at h;cases h
theorem KX.trans {B:Nat}{X QH:Nat->Prop}{w w' b:E}(h:KX B X w w')(k:KX B QH w' b)(f:∀ i,i<w.heap.size->QH i->X i):KX B X w b :=
 ⟨h.below.trans k.below,fun i d t fz hi h1 h2 j g=>by
  have e:=h.blk i d t fz hi h1 h2 j g;rw[<-e]
  exact k.blk i d t fz (e.trans hi) h1 h2 j fun l=>g (f i (ai hi) l)⟩
theorem KX.to {B:Nat}{w w' b:E}{X:Nat->Prop}(h:KX B X w w')(k:KX B XN w' b):KX B X w b:=h.trans k fun _ _ h=>h.elim
theorem KX.weak {B:Nat}{w w':E}{X:Nat->Prop}(h:KX B XN w w'):KX B X w w':=⟨h.below,fun i d t fz hi h1 h2 b _=>h.blk i d t fz hi h1 h2 b fun h=>h.elim⟩
theorem KX.of_below {B C:Nat}{X:Nat->Prop}{w w':E}(h:Below C w w')(b:w.heap.size<=C)(d:B<=w.heap.size):KX B X w w' :=
 ⟨h.mono (j5 d b),fun i _ _ _ hi _ _ _ _=>h.block i (ll (ai hi) b)⟩
theorem KX.of_only {B b:Nat}{X:Nat->Prop}{w w':E}(h:Only b w w')(f:X b)(d:B<=w.heap.size)(hb:B<=b):KX B X w w' :=
 ⟨h.below hb d,fun i _ _ _ hi _ _ _ g=>h.block i (ai hi) fun e=>g (e ▸ f)⟩
theorem KX.of_grown {B:Nat}{X:Nat->Prop}{row:Option Nat}{w w':E}(h:w.grownBy w' row)(m:B<=w.heap.size)(f:∀ j,row=N j->B<=j/\(X j∨∀ b t fz,w.heap[j]?=N (T b t fz)->t=9∨t=124∨t=204)):KX B X w w':=by
 refine⟨⟨h.os,h.tape,h.output,h.size,fun k n=>h.block k (ll n m) fun e=>?_⟩,fun i b t fz hi h1 h2 l g=>h.block i (ai hi) fun e=>?_⟩
 ·have:=(f k e.symm).1
  omega
 ·rcases(f i e.symm).2 with d | d
  ·exact g d
  ·rcases d b t fz hi with e | e | e
   ·exact h1 e
   ·exact h2 e
   ·exact l e
theorem aw {w:E}{b j:Nat}{d:Array QB}{t:QF}(h:w.heap[b]?=N (T d t (0,0)))(v:QB):(w.setCell (J b j Y) v).heap[b]?=N (T (d.setIfInBounds j v) t (0,0)):=by simp only[World.setCell,I6,eT,h,LI];rfl
theorem KX.setCell {B:Nat}{X:Nat->Prop}(w:E){b j:Nat}(hb:B<=b)(d:X b∨∀ f t fz,w.heap[b]?=N (T f t fz)->t=9∨t=124∨t=204)(v:QB):KX B X w (w.setCell (J b j Y) v):=by
 refine⟨(eI B w).setCell hb v,fun i f t fz hi h1 h2 h g=>?_⟩;refine qh _ _ _ _ fun e=>?_;simp at e;subst e;rcases d with d | d
 ·exact g d
 ·rcases d f t fz hi with e | e | e
  ·exact h1 e
  ·exact h2 e
  ·exact h e
def MkBox (w:E)(mb:Nat)(s0 s1:QB)(mp:Nat)(mk md:QB):Prop:=w.heap[mb]?=N (T #[s0,s1,.map (N mp),mk,md] 204 (0,0))
theorem MkBox.facts {w:E}{mb mp:Nat}{s0 s1 mk md:QB}(h:MkBox w mb s0 s1 mp mk md):mb<w.heap.size/\w.cell? (J mb 0 Y)=N s0/\w.cell? (J mb 1 Y)=N s1/\w.cell? (J mb 2 Y)=N (.map (N mp))/\w.cell? (J mb 3 Y)=N mk/\w.cell? (J mb 4 Y)=N md/\∀ j,w.frozen? (J mb j Y)=false:=by unfold MkBox at h;refine⟨ai h,?_,?_,?_,?_,?_,fun j=>?_⟩;all_goals simp[World.cell?,World.frozen?,h]
theorem MkBox.set3 {w:E}{mb mp:Nat}{s0 s1 mk md:QB}(h:MkBox w mb s0 s1 mp mk md)(v:QB):MkBox (w.setCell (J mb 3 Y) v) mb s0 s1 mp v md:=aw h v
theorem MkBox.set4 {w:E}{mb mp:Nat}{s0 s1 mk md:QB}(h:MkBox w mb s0 s1 mp mk md)(v:QB):MkBox (w.setCell (J mb 4 Y) v) mb s0 s1 mp mk v:=aw h v
theorem MkBox.blk {w w':E}{mb mp:Nat}{s0 s1 mk md:QB}(h:MkBox w mb s0 s1 mp mk md)(hb:w'.heap[mb]?=w.heap[mb]?):MkBox w' mb s0 s1 mp mk md:=hb.trans h
def bq (L:List ByteArray):List QB:=L.map U
def jf (G:ByteArray->Nat)(made:List Ent):List QB:=made.map fun x=>.pointer (N (J (G x.name) 0 Y))
def kW (G:ByteArray->Nat)(l:Lk):List QB:=[U l.name,QA l.ask,QA l.has,Q I 0,.pointer (if l.ask=QC then N (J (G l.name) 0 Y) else Y)]
def eX (G:ByteArray->Nat)(b:List Lk):List QB:=b.flatMap (kW G)
theorem yR (G:ByteArray->Nat)(b:List Lk)(l:Lk):eX G (b++[l])=eX G b++kW G l:=by simp[eX]
theorem mT {G d:ByteArray->Nat}{b:List Lk}(h:∀ l∈b,l.ask=QC->d l.name=G l.name):eX d b=eX G b:=by
 induction b with
 | nil=>rfl
 | cons l b f =>
  have e:kW d l=kW G l:=by
   unfold kW;cases ha:l.ask with
   | false=>rfl
   | true=>rw[h l JO ha]
  have:=f fun l g=>h l (mq _ g);simp only[eX,I9] at this ⊢;rw[e,this]
def dw (G:ByteArray->Nat)(b:List ByteArray)(made:List Ent)(s:List UInt8):Option QB :=
 match made.find? (fun e=>e.name.toList == s) with
 | some e=>N (.agg #[Q I 0,.pointer (N (J (G e.name) 0 Y))])
 | none=>(b.findIdx? fun x=>x.toList == s).map fun(i:Nat)=>.agg #[Q I (i:Int),.pointer Y]
def EntBlk (w:E)(b:Nat)(nm:ByteArray)(kind code:Int)(text:ByteArray)(act d:QB)(place:Int):Prop :=
 w.heap[b]?=N (T #[U nm,Q I kind,Q I code,U text,act,Z Y 0 0,d,Q I place] 127 (0,0))
def mF (w0:E)(S:Spc)(kind:Int)(tg:Nat)(act:QB):Prop :=
 if kind=3 then tg<S.n1/\∃ a b,act=Z a (S.f1 tg).actN b/\SlIns w0 a (S.f1 tg).actN (S.f1 tg).act else act=Z Y 0 0
structure EntAt (w0:E)(S:Spc)(G:ByteArray->Nat)(w:E)(b:Nat)(v:QB)(x:Ent):Prop where
 blk:∃ act,EntBlk w b x.name x.kind x.code x.text act v 0/\mF w0 S x.kind x.tg act
 ge:w0.heap.size<=b
 row:w.ownsRow w0.heap.size 212 5 v x.looks.length (eX G x.looks)
theorem bI {w w':E}{b size n:Nat}{e:QF}{v:QB}{d:List QB}(h:w.ownsRow b e size v n d)(hb:∀ k,v.ownBlock=N k->w'.heap[k]?=w.heap[k]?):w'.ownsRow b e size v n d:=by
 obtain⟨h1,h2 | ⟨g,f,i,rfl,m,l,j⟩⟩:=h
 ·exact⟨h1,.inl h2⟩
 ·exact⟨h1,.inr ⟨g,f,i,rfl,m,(hb g rfl).trans l,j⟩⟩
theorem af {w:E}{b size n:Nat}{e:QF}{v:QB}{j:List QB}(h:w.ownsRow b e size v n j):∀ k,v.ownBlock=N k->b<=k/\k<w.heap.size/\∃ l,w.heap[k]?=N (T l e (0,0)):=by
 intro k f;obtain⟨h1,⟨rfl,_⟩ | ⟨g,cap,i,rfl,m,d,h5⟩⟩:=h
 ·cases f
 ·cases f
  exact⟨m,ai d,i,d⟩
theorem EntAt.kx {w0 w w':E}{S:Spc}{G:ByteArray->Nat}{b:Nat}{v:QB}{x:Ent}{X:Nat->Prop}{B:Nat}(h:EntAt w0 S G w b v x)(g:KX B X w w')(h1:¬ X b)(h2:∀ k,v.ownBlock=N k->¬ X k):EntAt w0 S G w' b v x:=by obtain⟨⟨act,hb,l⟩,j,f⟩:=h;refine⟨⟨act,(g.blk b _ _ _ hb (by decide) (by decide) (by decide) h1).trans hb,l⟩,j,bI f fun k d=>?_⟩;obtain⟨_,_,cs,i⟩:=af f k d;exact g.blk k _ _ _ i (by decide) (by decide) (by decide) (h2 k d)
structure MIg (w0:E)(S:Spc)(mb mp:Nat)(s0 s1:QB)(w:E)(cnt:Nat)(F:List UInt8->Option QB)(nk:Nat)(ks:List QB)(np:Nat)(ps:List QB)(made:List Ent)(G:ByteArray->Nat)(V:ByteArray->QB)(mk md:QB):Prop where
 bel:Below w0.heap.size w0 w
 mbB:w0.heap.size<=mb
 mpB:w0.heap.size<=mp
 box:MkBox w mb s0 s1 mp mk md
 rmk:w.ownsRow w0.heap.size 9 1 mk nk ks
 rmd:w.ownsRow w0.heap.size 124 1 md np ps
 map:MapN w mp cnt F
 ents:∀ x∈made,EntAt w0 S G w (G x.name) (V x.name) x
 dist:made.Pairwise fun x y=>G x.name≠G y.name
abbrev MI (w0:E)(S:Spc)(mb mp:Nat)(s0 s1:QB)(w:E)(d b:List ByteArray)(made:List Ent)(G:ByteArray->Nat)(V:ByteArray->QB)(mk md:QB):Prop :=
 MIg w0 S mb mp s0 s1 w (2*made.length+d.length) (dw G d made) b.length (bq b) made.length (jf G made) made G V mk md
section
variable {w0 w w':E}{S:Spc}{mb mp:Nat}{s0 s1 mk md:QB}{cnt nk np:Nat}{F:List UInt8->Option QB}{ks ps:List QB}{made:List Ent}{G:ByteArray->Nat}{V:ByteArray->QB}
theorem MIg.lt (h:MIg w0 S mb mp s0 s1 w cnt F nk ks np ps made G V mk md):w0.heap.size<=w.heap.size:=h.bel.size
theorem MIg.below {C:Nat}(h:MIg w0 S mb mp s0 s1 w cnt F nk ks np ps made G V mk md)(hb:Below C w w')(b:w.heap.size<=C):MIg w0 S mb mp s0 s1 w' cnt F nk ks np ps made G V mk md :=
 have f:KX w0.heap.size XN w w':=KX.of_below hb b h.lt;have d:∀ i o,w.heap[i]?=N o->w'.heap[i]?=w.heap[i]?:=fun i o hi=>hb.block i (ll (ai hi) b)
 ⟨h.bel.trans f.below,h.mbB,h.mpB,h.box.blk (d _ _ h.box),own_below h.rmk hb b,own_below h.rmd hb b,h.map.blk (by obtain⟨es,c,g⟩:=h.map.isMap;exact d _ _ g),fun x j=>(h.ents x j).kx f (fun h=>h) (fun _ _ h=>h),h.dist⟩
theorem MIg.kx {X:Nat->Prop}(h:MIg w0 S mb mp s0 s1 w cnt F nk ks np ps made G V mk md)(l:KX w0.heap.size X w w')(b:∀ i o,w.heap[i]?=N o->¬ X i->w'.heap[i]?=w.heap[i]?)(h1:¬ X mb)(h2:¬ X mp)(p:∀ k,mk.ownBlock=N k->¬ X k)(n:∀ k,md.ownBlock=N k->¬ X k)(j:∀ x∈made,¬ X (G x.name)/\∀ k,(V x.name).ownBlock=N k->¬ X k):MIg w0 S mb mp s0 s1 w' cnt F nk ks np ps made G V mk md :=
 ⟨h.bel.trans l.below,h.mbB,h.mpB,h.box.blk (b _ _ h.box h1),bI h.rmk (fun k d=>by obtain⟨_,_,m,f⟩:=af h.rmk k d;exact b _ _ f (p k d)),bI h.rmd (fun k d=>by obtain⟨_,_,m,f⟩:=af h.rmd k d;exact b _ _ f (n k d)),h.map.blk (by obtain⟨es,c,q⟩:=h.map.isMap;exact b _ _ q h2),fun x g=>(h.ents x g).kx l (j x g).1 (j x g).2,h.dist⟩
theorem MIg.mapped {cnt':Nat}{F':List UInt8->Option QB}(h:MIg w0 S mb mp s0 s1 w cnt F nk ks np ps made G V mk md)(n:w.grownBy w' (N mp))(p:MapN w' mp cnt' F'):MIg w0 S mb mp s0 s1 w' cnt' F' nk ks np ps made G V mk md/\KX w0.heap.size XN w w':=by
 obtain⟨es,c,g⟩:=h.map.isMap;have m:KX w0.heap.size XN w w':=KX.of_grown n h.lt fun j o=>by
  cases o
  exact⟨h.mpB,.inr fun d t fz b=>by rw[g] at b;cases b⟩
 have f:∀ (i:Nat) (d:Array QB) (t:QF) (fz:Nat × Nat),w.heap[i]?=N (Obj.cells d t fz)->w'.heap[i]?=w.heap[i]?:=fun i d t fz hi=>n.block i (ai hi) fun e=>by
  cases e
  rw[g] at hi;cases hi
 exact⟨⟨h.bel.trans m.below,h.mbB,h.mpB,h.box.blk (f _ _ _ _ h.box),bI h.rmk (fun k l=>by obtain⟨_,_,d,b⟩:=af h.rmk k l;exact f _ _ _ _ b),bI h.rmd (fun k l=>by obtain⟨_,_,d,b⟩:=af h.rmd k l;exact f _ _ _ _ b),p,fun x q=>(h.ents x q).kx m (fun h=>h) (fun _ _ h=>h),h.dist⟩,m⟩
theorem az {w:E}{d size n b:Nat}{e:QF}{v:QB}{f:List QB}(h:w.ownsRow d e size v n f)(hb:v.ownBlock≠N b)(j:Nat)(u:QB):(w.setCell (J b j Y) u).ownsRow d e size v n f :=
 bI h fun k g=>qh _ _ _ _ fun e=>hb (by rw[g];exact wC N e)
theorem ah {w:E}{b:Nat}{j i:Array QB}{t g:QF}{f k:Nat × Nat}(h:w.heap[b]?=N (T j t f))(d:w.heap[b]?=N (T i g k)):t=g:=by rw[h] at d;simp only[E2,Obj.cells.injEq] at d;exact d.2.1
theorem MIg.mked {nk':Nat}{ks':List QB}{v:QB}(h:MIg w0 S mb mp s0 s1 w cnt F nk ks np ps made G V mk md)(s:w.grownBy w' mk.ownBlock)(u:w'.ownsRow w0.heap.size 9 1 v nk' ks'):MIg w0 S mb mp s0 s1 (w'.setCell (J mb 3 Y) v) cnt F nk' ks' np ps made G V v md/\KX w0.heap.size XN w (w'.setCell (J mb 3 Y) v):=by
 have n:=af h.rmk;have r:KX w0.heap.size XN w w':=KX.of_grown s h.lt fun j y=>by obtain⟨h1,_,b,h2⟩:=n j y;exact⟨h1,.inr fun b t fz f=>.inl (ah f h2)⟩
 have l:∀ (i:Nat) (o:Obj),w.heap[i]?=N o->(∀ b,o≠Obj.cells b 9 (0,0))->w'.heap[i]?=w.heap[i]?:=fun i o hi A=>s.block i (ai hi) fun e=>by
  obtain⟨_,_,b,h2⟩:=n i e.symm;rw[hi] at h2;cases h2
  exact A b rfl
 have d:MkBox w' mb s0 s1 mp mk md:=h.box.blk (l _ _ h.box (fun b e=>by cases e));have p:MapN w' mp cnt F:=h.map.blk (by obtain⟨z,c,m⟩:=h.map.isMap;exact l _ _ m (fun b e=>by cases e));have q:w'.ownsRow w0.heap.size 124 1 md np ps:=bI h.rmd fun k g=>by obtain⟨_,_,b,f⟩:=af h.rmd k g;exact l _ _ f (fun b e=>by cases e)
 have g:KX w0.heap.size XN w' (w'.setCell (J mb 3 Y) v):=KX.setCell w' h.mbB (.inr fun b t fz f=>.inr (.inr (ah f d))) v;refine⟨⟨h.bel.trans (r.to g).below,h.mbB,h.mpB,d.set3 v,az u (fun e=>?_) _ _,az q (fun e=>?_) _ _,p.blk (qh _ _ _ _ fun e=>?_),fun x B=>(h.ents x B).kx (r.to g) (fun h=>h) (fun _ _ h=>h),h.dist⟩,r.to g⟩
 ·obtain⟨_,_,b,f⟩:=af u mb e
  exact absurd (ah f d) (by decide)
 ·obtain⟨_,_,b,f⟩:=af q mb e
  exact absurd (ah f d) (by decide)
 ·obtain⟨z,c,m⟩:=p.isMap
  simp at e;rw[e,d] at m;cases m
theorem MIg.mded {np':Nat}{ps':List QB}{v:QB}(h:MIg w0 S mb mp s0 s1 w cnt F nk ks np ps made G V mk md)(s:w.grownBy w' md.ownBlock)(u:w'.ownsRow w0.heap.size 124 1 v np' ps'):MIg w0 S mb mp s0 s1 (w'.setCell (J mb 4 Y) v) cnt F nk ks np' ps' made G V mk v/\KX w0.heap.size XN w (w'.setCell (J mb 4 Y) v):=by
 have n:=af h.rmd;have r:KX w0.heap.size XN w w':=KX.of_grown s h.lt fun j y=>by obtain⟨h1,_,b,h2⟩:=n j y;exact⟨h1,.inr fun b t fz f=>.inr (.inl (ah f h2))⟩
 have l:∀ (i:Nat) (o:Obj),w.heap[i]?=N o->(∀ b,o≠Obj.cells b 124 (0,0))->w'.heap[i]?=w.heap[i]?:=fun i o hi A=>s.block i (ai hi) fun e=>by
  obtain⟨_,_,b,h2⟩:=n i e.symm;rw[hi] at h2;cases h2
  exact A b rfl
 have d:MkBox w' mb s0 s1 mp mk md:=h.box.blk (l _ _ h.box (fun b e=>by cases e));have p:MapN w' mp cnt F:=h.map.blk (by obtain⟨z,c,m⟩:=h.map.isMap;exact l _ _ m (fun b e=>by cases e));have q:w'.ownsRow w0.heap.size 9 1 mk nk ks:=bI h.rmk fun k g=>by obtain⟨_,_,b,f⟩:=af h.rmk k g;exact l _ _ f (fun b e=>by cases e)
 have g:KX w0.heap.size XN w' (w'.setCell (J mb 4 Y) v):=KX.setCell w' h.mbB (.inr fun b t fz f=>.inr (.inr (ah f d))) v;refine⟨⟨h.bel.trans (r.to g).below,h.mbB,h.mpB,d.set4 v,az q (fun e=>?_) _ _,az u (fun e=>?_) _ _,p.blk (qh _ _ _ _ fun e=>?_),fun x B=>(h.ents x B).kx (r.to g) (fun h=>h) (fun _ _ h=>h),h.dist⟩,r.to g⟩
 ·obtain⟨_,_,b,f⟩:=af q mb e
  exact absurd (ah f d) (by decide)
 ·obtain⟨_,_,b,f⟩:=af u mb e
  exact absurd (ah f d) (by decide)
 ·obtain⟨z,c,m⟩:=p.isMap
  simp at e;rw[e,d] at m;cases m
end
structure EU (w0:E)(S:Spc)(w:E)(eb:Nat)(nm:ByteArray)(tg:Nat)(G:ByteArray->Nat)(ls:List Lk)(v:QB)(made:List Ent)(V:ByteArray->QB):Prop where
 blk:∃ a cap,EntBlk w eb nm 3 0 ⟨#[]⟩ (Z a (S.f1 tg).actN cap) v 0/\SlIns w0 a (S.f1 tg).actN (S.f1 tg).act
 ge:w0.heap.size<=eb
 row:w.ownsRow w0.heap.size 212 5 v ls.length (eX G ls)
 free:∀ x∈made,G x.name≠eb
 apart:∀ x∈made,∀ k,v.ownBlock=N k->(V x.name).ownBlock≠N k
 asked:∀ l∈ls,l.ask=QC->∃ x∈made,x.name=l.name
end Go.Proofs.YtkdimgejdocbbaaGreatDoor.Vp
