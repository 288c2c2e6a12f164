import Derived.Test.YtkdimgejdocbbaaGreatDoorYS
import Derived.Test.YtkdimgejdocbbaaGreatDoorZU
import Derived.Maps.OwnSet
import Derived.Maps.Views
import Derived.Maps.RangeWalk
import Derived.StringKeys
import Derived.DeepKeys4
open Go.Addr renaming mk->J
open Go.Value renaming slice->Y,string->U,int->N,bool->QA
open Option renaming none->Z,some->Q
open Go.Obj renaming cells->T
open Go.IntKind renaming i64->I
open Go renaming World->E,Value->QB,TypeId->QF
open Bool renaming true->QC
namespace Go.Proofs.YtkdimgejdocbbaaGreatDoor.Vp
open RowKit Go.Maps
def jV (v:QB):Option (DataW QB × List MemPlace):=Q (.held v,[])
theorem px:Keyed Tryz.prog 9:=LX Tryz.underlying9
def MapN (w:E)(b n:Nat)(G:List UInt8->Option QB):Prop :=
 ∃ QQ:DataW QB,w.ownsMap Tryz.prog 9 jV b n QQ/\∀ s,Maps.has QQ (.string s)=(G s).isSome/\∀ v,G s=Q v->∀ d,QQ.atKey (.string s) d=.held v
theorem AZ (w:E):MapN (w.alloc (.map #[] 0)) w.heap.size 0 (fun _=>Z) :=
 ⟨_,World.ownsMap_made w Tryz.prog 9 jV,fun s=>⟨by simp[Maps.has],fun v h=>by cases h⟩⟩
theorem MapN.isMap {w:E}{b n:Nat}{G:List UInt8->Option QB}(h:MapN w b n G):∃ f c,w.heap[b]?=Q (.map f c):=by obtain⟨QQ,⟨f,d,h1,-⟩,-⟩:=h;exact⟨f,d,h1⟩
theorem MapN.blk {w w':E}{b n:Nat}{G:List UInt8->Option QB}(h:MapN w b n G)(hb:w'.heap[b]?=w.heap[b]?):MapN w' b n G:=by obtain⟨QQ,⟨f,d,h1,r⟩,h2⟩:=h;exact⟨QQ,⟨f,d,hb.trans h1,r⟩,h2⟩
theorem MapN.mono {w:E}{b n d:Nat}{G:List UInt8->Option QB}(h:MapN w b n G)(f:n<=d):MapN w b d G:=by obtain⟨QQ,h1,h2⟩:=h;exact⟨QQ,h1.mono f,h2⟩
theorem MapN.congr {w:E}{b n:Nat}{G d:List UInt8->Option QB}(h:MapN w b n G)(f:∀ s,G s=d s):MapN w b n d:=by obtain rfl:G=d:=funext f;exact h
theorem tk {QQ:DataW QB}{G:List UInt8->Option QB}{x:List UInt8}{v:QB}(g:Maps.IsMap QQ)(h:∀ s,Maps.has QQ (.string s)=(G s).isSome/\∀ v,G s=Q v->∀ b,QQ.atKey (.string s) b=.held v):∀ s,Maps.has (QQ.put (.string x) (.held v)) (.string s)=((if s=x then Q v else G s:Option QB)).isSome/\∀ u,(if s=x then Q v else G s)=Q u->∀ b,(QQ.put (.string x) (.held v)).atKey (.string s) b=.held u:=by
 intro s;by_cases e:s=x
 ·subst e
  refine⟨?_,fun u d b=>?_⟩
  ·rw[Maps.has_put_same g (by simp[WideAt.IsKeyLit])]
   simp
  ·simp at d
   subst d;exact Maps.atKey_put_same g (by simp[WideAt.IsKeyLit]) _ _
 ·have f:Lit.string s≠.string x:=by simpa using e
  refine⟨?_,fun u d b=>?_⟩
  ·rw[Maps.has_put_other f,a8 e]
   exact(h s).1
  ·rw[a8 e] at d
   rw[Maps.atKey_put_other f];exact(h s).2 u d b
section
variable (w:E){ops:Array Oper}{rest:List Oper}{o:Oper}{a:Act}{QL:Exit->Act->E->Prop}
theorem xt (l:o.guard=Z)(m x v:Operand)(t:QF)(h:o.op=Op.mapUpdate t m x v)(e:QF)(k:Tryz.prog.underlying t=Q (.map 9 e))(b n:Nat)(G:List UInt8->Option QB)
  (u:a.eval m=.map (Q b)) (g:MapN w b n G) (r:n<maxLen) (d:ByteArray) (f:QB) (q:a.eval x=.string d) (y:a.eval v=f) (j:d.size<=maxLen)
  (p:∀ w',MapN w' b (n+1) (fun s=>if s=d.toList then Q f else G s)->w.grownBy w' (Q b)->wpList Tryz.prog ops QL rest (a.put o.dst undef) w') :
  wpList Tryz.prog ops QL (o :: rest) a w:=by
 obtain⟨QQ,i,A⟩:=g;refine wpList_mapUpdate_own w l m x v t h 9 e px k jV b n QQ u i r (.string d) f _ q y (JY Tryz.underlying9 j) (.held f) [] rfl ?_;intro z h1 h2;refine p z ⟨_,h1,?_⟩ h2;have:=tk (x:=d.toList) (v:=f) i.isMap A;rw[H7] at this ⊢;exact this
theorem iv (h:o.guard=Z)(m x:Operand)(t:QF)(l:o.op=Op.lookup t m x QC)(e:QF)(q:Tryz.prog.underlying t=Q (.map 9 e)){z:QB}(hz:(zeroValue e).run Tryz.prog w=.ok z w)(b n:Nat)(G:List UInt8->Option QB)
  (QP:a.eval m=.map (Q b)) (j:MapN w b n G) (d:ByteArray) (s:a.eval x=.string d) (p:d.size<=maxLen) (u:QB) (A:(G d.toList).getD z=u) (f:Bool) (y:(G d.toList).isSome=f)
  (r:wpList Tryz.prog ops QL rest (a.put o.dst (.tuple #[u,QA f])) w) :
  wpList Tryz.prog ops QL (o :: rest) a w:=by
 obtain⟨QQ,B,k⟩:=j;refine wpList_lookup_own_ok w h m x t l 9 e px q jV hz (.held z) [] rfl b n QQ QP B _ _ s (JY Tryz.underlying9 p) ?_;intro v ps i;have g:DataW.held v=QQ.atKey (.string d.data.toList) (.held z):=by unfold jV at i;simp only[EQ,CV] at i;exact i.1
 rw[<-H7] at g ⊢;have H:v=u:=by
  rw[<-A];cases h:G d.toList with
  | none =>
   have C:Maps.has QQ (.string d.toList)=false:=by rw[(k _).1,h];rfl
   rw[Maps.atKey_of_not_has C] at g;simpa using g
  | some u =>rw[(k _).2 u h] at g;simpa using g
 rw[(k _).1,y,H];exact r
end
end Go.Proofs.YtkdimgejdocbbaaGreatDoor.Vp
namespace Go.Proofs.YtkdimgejdocbbaaGreatDoor.Vp
open RowKit
structure KX (B:Nat)(X:Nat->Prop)(w w':E):Prop where
 below:Below B w w'
 blk:∀ i cs t fz,w.heap[i]?=Q (T cs t fz)->t≠9->t≠124->t≠204->¬ X i->w'.heap[i]?=w.heap[i]?
def XN:Nat->Prop:=fun _=>False
theorem ai {w:E}{i:Nat}{o:Obj}(h:w.heap[i]?=Q o):i<w.heap.size:=by
 rcases IW i w.heap.size with b | b
 ·exact b
 ·rw[JE b] at h;cases h
theorem KX.trans {B:Nat}{X QG:Nat->Prop}{w w' b:E}(h:KX B X w w')(k:KX B QG w' b)(g:∀ i,i<w.heap.size->QG i->X i):KX B X w b :=
 ⟨h.below.trans k.below,fun i d t fz hi h1 h2 f j=>by
  have e:=h.blk i d t fz hi h1 h2 f j;rw[<-e]
  exact k.blk i d t fz (e.trans hi) h1 h2 f fun l=>j (g i (ai hi) l)⟩
theorem KX.to {B:Nat}{w w' b:E}{X:Nat->Prop}(h:KX B X w w')(k:KX B XN w' b):KX B X w b:=h.trans k fun _ _ h=>h.elim
theorem KX.weak {B:Nat}{w w':E}{X:Nat->Prop}(h:KX B XN w w'):KX B X w w':=⟨h.below,fun i b t fz hi h1 h2 d _=>h.blk i b t fz hi h1 h2 d fun h=>h.elim⟩
theorem KX.of_below {B C:Nat}{X:Nat->Prop}{w w':E}(h:Below C w w')(b:w.heap.size<=C)(d:B<=w.heap.size):KX B X w w' :=
 ⟨h.mono (j5 d b),fun i _ _ _ hi _ _ _ _=>h.block i (ll (ai hi) b)⟩
theorem KX.of_only {B b:Nat}{X:Nat->Prop}{w w':E}(h:Only b w w')(f:X b)(g:B<=w.heap.size)(hb:B<=b):KX B X w w' :=
 ⟨h.below hb g,fun i _ _ _ hi _ _ _ d=>h.block i (ai hi) fun e=>d (e ▸ f)⟩
theorem KX.of_grown {B:Nat}{X:Nat->Prop}{row:Option Nat}{w w':E}(h:w.grownBy w' row)(n:B<=w.heap.size)(f:∀ j,row=Q j->B<=j/\(X j∨∀ b t fz,w.heap[j]?=Q (T b t fz)->t=9∨t=124∨t=204)):KX B X w w':=by
 refine⟨⟨h.os,h.tape,h.output,h.size,fun k g=>h.block k (ll g n) fun e=>?_⟩,fun i b t fz hi h1 h2 l m=>h.block i (ai hi) fun e=>?_⟩
 ·have:=(f k e.symm).1
  omega
 ·rcases(f i e.symm).2 with d | d
  ·exact m d
  ·rcases d b t fz hi with e | e | e
   ·exact h1 e
   ·exact h2 e
   ·exact l e
theorem aw {w:E}{b j:Nat}{d:Array QB}{t:QF}(h:w.heap[b]?=Q (T d t (0,0)))(v:QB):(w.setCell (J b j Z) v).heap[b]?=Q (T (d.setIfInBounds j v) t (0,0)):=by simp only[World.setCell,I5,eT,h,LF];rfl
theorem KX.setCell {B:Nat}{X:Nat->Prop}(w:E){b j:Nat}(hb:B<=b)(d:X b∨∀ f t fz,w.heap[b]?=Q (T f t fz)->t=9∨t=124∨t=204)(v:QB):KX B X w (w.setCell (J b j Z) v):=by
 refine⟨(eI B w).setCell hb v,fun i f t fz hi h1 h2 g h=>?_⟩;refine qh _ _ _ _ fun e=>?_;simp at e;subst e;rcases d with d | d
 ·exact h d
 ·rcases d f t fz hi with e | e | e
  ·exact h1 e
  ·exact h2 e
  ·exact g e
def MkBox (w:E)(mb:Nat)(s0 s1:QB)(mp:Nat)(mk md:QB):Prop:=w.heap[mb]?=Q (T #[s0,s1,.map (Q mp),mk,md] 204 (0,0))
theorem MkBox.facts {w:E}{mb mp:Nat}{s0 s1 mk md:QB}(h:MkBox w mb s0 s1 mp mk md):mb<w.heap.size/\w.cell? (J mb 0 Z)=Q s0/\w.cell? (J mb 1 Z)=Q s1/\w.cell? (J mb 2 Z)=Q (.map (Q mp))/\w.cell? (J mb 3 Z)=Q mk/\w.cell? (J mb 4 Z)=Q md/\∀ j,w.frozen? (J mb j Z)=false:=by unfold MkBox at h;refine⟨ai h,?_,?_,?_,?_,?_,fun j=>?_⟩;all_goals simp[World.cell?,World.frozen?,h]
theorem MkBox.set3 {w:E}{mb mp:Nat}{s0 s1 mk md:QB}(h:MkBox w mb s0 s1 mp mk md)(v:QB):MkBox (w.setCell (J mb 3 Z) v) mb s0 s1 mp v md:=aw h v
theorem MkBox.set4 {w:E}{mb mp:Nat}{s0 s1 mk md:QB}(h:MkBox w mb s0 s1 mp mk md)(v:QB):MkBox (w.setCell (J mb 4 Z) v) mb s0 s1 mp mk v:=aw h v
theorem MkBox.blk {w w':E}{mb mp:Nat}{s0 s1 mk md:QB}(h:MkBox w mb s0 s1 mp mk md)(hb:w'.heap[mb]?=w.heap[mb]?):MkBox w' mb s0 s1 mp mk md:=hb.trans h
def bq (L:List ByteArray):List QB:=L.map U
def jf (G:ByteArray->Nat)(made:List Ent):List QB:=made.map fun x=>.pointer (Q (J (G x.name) 0 Z))
def kW (G:ByteArray->Nat)(l:Lk):List QB:=[.string l.name,QA l.ask,QA l.has,N I 0,.pointer (if l.ask=QC then Q (J (G l.name) 0 Z) else Z)]
def eX (G:ByteArray->Nat)(b:List Lk):List QB:=b.flatMap (kW G)
theorem yR (G:ByteArray->Nat)(b:List Lk)(l:Lk):eX G (b++[l])=eX G b++kW G l:=by simp[eX]
theorem mT {G d:ByteArray->Nat}{b:List Lk}(h:∀ l∈b,l.ask=QC->d l.name=G l.name):eX d b=eX G b:=by
 induction b with
 | nil=>rfl
 | cons l b g =>
  have e:kW d l=kW G l:=by
   unfold kW;cases ha:l.ask with
   | false=>rfl
   | true=>rw[h l JN ha]
  have:=g fun l f=>h l (mq _ f);simp only[eX,I8] at this ⊢;rw[e,this]
def dw (G:ByteArray->Nat)(b:List ByteArray)(made:List Ent)(s:List UInt8):Option QB :=
 match made.find? (fun e=>e.name.toList == s) with
 | some e=>Q (.agg #[N I 0,.pointer (Q (J (G e.name) 0 Z))])
 | none=>(b.findIdx? fun x=>x.toList == s).map fun(i:Nat)=>.agg #[N I (i:Int),.pointer Z]
def EntBlk (w:E)(b:Nat)(nm:ByteArray)(kind code:Int)(text:ByteArray)(act d:QB)(place:Int):Prop :=
 w.heap[b]?=Q (T #[.string nm,N I kind,N I code,.string text,act,Y Z 0 0,d,N I place] 127 (0,0))
def mF (w0:E)(S:Spc)(kind:Int)(tg:Nat)(act:QB):Prop :=
 if kind=3 then tg<S.n1/\∃ a b,act=Y a (S.f1 tg).actN b/\SlIns w0 a (S.f1 tg).actN (S.f1 tg).act else act=Y Z 0 0
structure EntAt (w0:E)(S:Spc)(G:ByteArray->Nat)(w:E)(b:Nat)(v:QB)(x:Ent):Prop where
 blk:∃ act,EntBlk w b x.name x.kind x.code x.text act v 0/\mF w0 S x.kind x.tg act
 ge:w0.heap.size<=b
 row:w.ownsRow w0.heap.size 212 5 v x.looks.length (eX G x.looks)
theorem bI {w w':E}{b size n:Nat}{e:QF}{v:QB}{d:List QB}(h:w.ownsRow b e size v n d)(hb:∀ k,v.ownBlock=Q k->w'.heap[k]?=w.heap[k]?):w'.ownsRow b e size v n d:=by
 obtain⟨h1,h2 | ⟨g,f,i,rfl,j,l,m⟩⟩:=h
 ·exact⟨h1,.inl h2⟩
 ·exact⟨h1,.inr ⟨g,f,i,rfl,j,(hb g rfl).trans l,m⟩⟩
theorem af {w:E}{b size n:Nat}{e:QF}{v:QB}{l:List QB}(h:w.ownsRow b e size v n l):∀ k,v.ownBlock=Q k->b<=k/\k<w.heap.size/\∃ j,w.heap[k]?=Q (T j e (0,0)):=by
 intro k d;obtain⟨h1,⟨rfl,_⟩ | ⟨g,cap,f,rfl,m,i,h5⟩⟩:=h
 ·cases d
 ·cases d
  exact⟨m,ai i,f,i⟩
theorem EntAt.kx {w0 w w':E}{S:Spc}{G:ByteArray->Nat}{b:Nat}{v:QB}{x:Ent}{X:Nat->Prop}{B:Nat}(h:EntAt w0 S G w b v x)(f:KX B X w w')(h1:¬ X b)(h2:∀ k,v.ownBlock=Q k->¬ X k):EntAt w0 S G w' b v x:=by obtain⟨⟨act,hb,j⟩,i,g⟩:=h;refine⟨⟨act,(f.blk b _ _ _ hb (by decide) (by decide) (by decide) h1).trans hb,j⟩,i,bI g fun k d=>?_⟩;obtain⟨_,_,cs,l⟩:=af g k d;exact f.blk k _ _ _ l (by decide) (by decide) (by decide) (h2 k d)
structure MIg (w0:E)(S:Spc)(mb mp:Nat)(s0 s1:QB)(w:E)(cnt:Nat)(F:List UInt8->Option QB)(nk:Nat)(ks:List QB)(np:Nat)(ps:List QB)(made:List Ent)(G:ByteArray->Nat)(V:ByteArray->QB)(mk md:QB):Prop where
 bel:Below w0.heap.size w0 w
 mbB:w0.heap.size<=mb
 mpB:w0.heap.size<=mp
 box:MkBox w mb s0 s1 mp mk md
 rmk:w.ownsRow w0.heap.size 9 1 mk nk ks
 rmd:w.ownsRow w0.heap.size 124 1 md np ps
 map:MapN w mp cnt F
 ents:∀ x∈made,EntAt w0 S G w (G x.name) (V x.name) x
 dist:made.Pairwise fun x y=>G x.name≠G y.name
abbrev MI (w0:E)(S:Spc)(mb mp:Nat)(s0 s1:QB)(w:E)(d b:List ByteArray)(made:List Ent)(G:ByteArray->Nat)(V:ByteArray->QB)(mk md:QB):Prop :=
 MIg w0 S mb mp s0 s1 w (2*made.length+d.length) (dw G d made) b.length (bq b) made.length (jf G made) made G V mk md
section
variable {w0 w w':E}{S:Spc}{mb mp:Nat}{s0 s1 mk md:QB}{cnt nk np:Nat}{F:List UInt8->Option QB}{ks ps:List QB}{made:List Ent}{G:ByteArray->Nat}{V:ByteArray->QB}
theorem MIg.lt (h:MIg w0 S mb mp s0 s1 w cnt F nk ks np ps made G V mk md):w0.heap.size<=w.heap.size:=h.bel.size
theorem MIg.below {C:Nat}(h:MIg w0 S mb mp s0 s1 w cnt F nk ks np ps made G V mk md)(hb:Below C w w')(b:w.heap.size<=C):MIg w0 S mb mp s0 s1 w' cnt F nk ks np ps made G V mk md :=
 have f:KX w0.heap.size XN w w':=KX.of_below hb b h.lt;have d:∀ i o,w.heap[i]?=Q o->w'.heap[i]?=w.heap[i]?:=fun i o hi=>hb.block i (ll (ai hi) b)
 ⟨h.bel.trans f.below,h.mbB,h.mpB,h.box.blk (d _ _ h.box),own_below h.rmk hb b,own_below h.rmd hb b,h.map.blk (by obtain⟨es,c,g⟩:=h.map.isMap;exact d _ _ g),fun x j=>(h.ents x j).kx f (fun h=>h) (fun _ _ h=>h),h.dist⟩
theorem MIg.kx {X:Nat->Prop}(h:MIg w0 S mb mp s0 s1 w cnt F nk ks np ps made G V mk md)(j:KX w0.heap.size X w w')(b:∀ i o,w.heap[i]?=Q o->¬ X i->w'.heap[i]?=w.heap[i]?)(h1:¬ X mb)(h2:¬ X mp)(n:∀ k,mk.ownBlock=Q k->¬ X k)(q:∀ k,md.ownBlock=Q k->¬ X k)(l:∀ x∈made,¬ X (G x.name)/\∀ k,(V x.name).ownBlock=Q k->¬ X k):MIg w0 S mb mp s0 s1 w' cnt F nk ks np ps made G V mk md :=
 ⟨h.bel.trans j.below,h.mbB,h.mpB,h.box.blk (b _ _ h.box h1),bI h.rmk (fun k d=>by obtain⟨_,_,m,g⟩:=af h.rmk k d;exact b _ _ g (n k d)),bI h.rmd (fun k d=>by obtain⟨_,_,m,g⟩:=af h.rmd k d;exact b _ _ g (q k d)),h.map.blk (by obtain⟨es,c,p⟩:=h.map.isMap;exact b _ _ p h2),fun x f=>(h.ents x f).kx j (l x f).1 (l x f).2,h.dist⟩
theorem MIg.mapped {cnt':Nat}{F':List UInt8->Option QB}(h:MIg w0 S mb mp s0 s1 w cnt F nk ks np ps made G V mk md)(n:w.grownBy w' (Q mp))(q:MapN w' mp cnt' F'):MIg w0 S mb mp s0 s1 w' cnt' F' nk ks np ps made G V mk md/\KX w0.heap.size XN w w':=by
 obtain⟨es,c,g⟩:=h.map.isMap;have m:KX w0.heap.size XN w w':=KX.of_grown n h.lt fun j o=>by
  cases o
  exact⟨h.mpB,.inr fun f t fz b=>by rw[g] at b;cases b⟩
 have d:∀ (i:Nat) (f:Array QB) (t:QF) (fz:Nat × Nat),w.heap[i]?=Q (Obj.cells f t fz)->w'.heap[i]?=w.heap[i]?:=fun i f t fz hi=>n.block i (ai hi) fun e=>by
  cases e
  rw[g] at hi;cases hi
 exact⟨⟨h.bel.trans m.below,h.mbB,h.mpB,h.box.blk (d _ _ _ _ h.box),bI h.rmk (fun k l=>by obtain⟨_,_,f,b⟩:=af h.rmk k l;exact d _ _ _ _ b),bI h.rmd (fun k l=>by obtain⟨_,_,f,b⟩:=af h.rmd k l;exact d _ _ _ _ b),q,fun x p=>(h.ents x p).kx m (fun h=>h) (fun _ _ h=>h),h.dist⟩,m⟩
theorem az {w:E}{d size n b:Nat}{e:QF}{v:QB}{f:List QB}(h:w.ownsRow d e size v n f)(hb:v.ownBlock≠Q b)(j:Nat)(u:QB):(w.setCell (J b j Z) u).ownsRow d e size v n f :=
 bI h fun k g=>qh _ _ _ _ fun e=>hb (by rw[g];exact vG Q e)
theorem ah {w:E}{b:Nat}{j i:Array QB}{t g:QF}{f k:Nat × Nat}(h:w.heap[b]?=Q (T j t f))(d:w.heap[b]?=Q (T i g k)):t=g:=by rw[h] at d;simp only[EQ,Obj.cells.injEq] at d;exact d.2.1
theorem MIg.mked {nk':Nat}{ks':List QB}{v:QB}(h:MIg w0 S mb mp s0 s1 w cnt F nk ks np ps made G V mk md)(s:w.grownBy w' mk.ownBlock)(u:w'.ownsRow w0.heap.size 9 1 v nk' ks'):MIg w0 S mb mp s0 s1 (w'.setCell (J mb 3 Z) v) cnt F nk' ks' np ps made G V v md/\KX w0.heap.size XN w (w'.setCell (J mb 3 Z) v):=by
 have q:=af h.rmk;have r:KX w0.heap.size XN w w':=KX.of_grown s h.lt fun j z=>by obtain⟨h1,_,b,h2⟩:=q j z;exact⟨h1,.inr fun b t fz f=>.inl (ah f h2)⟩
 have l:∀ (i:Nat) (o:Obj),w.heap[i]?=Q o->(∀ b,o≠Obj.cells b 9 (0,0))->w'.heap[i]?=w.heap[i]?:=fun i o hi y=>s.block i (ai hi) fun e=>by
  obtain⟨_,_,b,h2⟩:=q i e.symm;rw[hi] at h2;cases h2
  exact y b rfl
 have d:MkBox w' mb s0 s1 mp mk md:=h.box.blk (l _ _ h.box (fun b e=>by cases e));have p:MapN w' mp cnt F:=h.map.blk (by obtain⟨B,c,m⟩:=h.map.isMap;exact l _ _ m (fun b e=>by cases e));have n:w'.ownsRow w0.heap.size 124 1 md np ps:=bI h.rmd fun k g=>by obtain⟨_,_,b,f⟩:=af h.rmd k g;exact l _ _ f (fun b e=>by cases e)
 have g:KX w0.heap.size XN w' (w'.setCell (J mb 3 Z) v):=KX.setCell w' h.mbB (.inr fun b t fz f=>.inr (.inr (ah f d))) v;refine⟨⟨h.bel.trans (r.to g).below,h.mbB,h.mpB,d.set3 v,az u (fun e=>?_) _ _,az n (fun e=>?_) _ _,p.blk (qh _ _ _ _ fun e=>?_),fun x A=>(h.ents x A).kx (r.to g) (fun h=>h) (fun _ _ h=>h),h.dist⟩,r.to g⟩
 ·obtain⟨_,_,b,f⟩:=af u mb e
  exact absurd (ah f d) (by decide)
 ·obtain⟨_,_,b,f⟩:=af n mb e
  exact absurd (ah f d) (by decide)
 ·obtain⟨B,c,m⟩:=p.isMap
  simp at e;rw[e,d] at m;cases m
theorem MIg.mded {np':Nat}{ps':List QB}{v:QB}(h:MIg w0 S mb mp s0 s1 w cnt F nk ks np ps made G V mk md)(s:w.grownBy w' md.ownBlock)(u:w'.ownsRow w0.heap.size 124 1 v np' ps'):MIg w0 S mb mp s0 s1 (w'.setCell (J mb 4 Z) v) cnt F nk ks np' ps' made G V mk v/\KX w0.heap.size XN w (w'.setCell (J mb 4 Z) v):=by
 have q:=af h.rmd;have r:KX w0.heap.size XN w w':=KX.of_grown s h.lt fun j z=>by obtain⟨h1,_,b,h2⟩:=q j z;exact⟨h1,.inr fun b t fz f=>.inr (.inl (ah f h2))⟩
 have l:∀ (i:Nat) (o:Obj),w.heap[i]?=Q o->(∀ b,o≠Obj.cells b 124 (0,0))->w'.heap[i]?=w.heap[i]?:=fun i o hi y=>s.block i (ai hi) fun e=>by
  obtain⟨_,_,b,h2⟩:=q i e.symm;rw[hi] at h2;cases h2
  exact y b rfl
 have d:MkBox w' mb s0 s1 mp mk md:=h.box.blk (l _ _ h.box (fun b e=>by cases e));have p:MapN w' mp cnt F:=h.map.blk (by obtain⟨B,c,m⟩:=h.map.isMap;exact l _ _ m (fun b e=>by cases e));have n:w'.ownsRow w0.heap.size 9 1 mk nk ks:=bI h.rmk fun k g=>by obtain⟨_,_,b,f⟩:=af h.rmk k g;exact l _ _ f (fun b e=>by cases e)
 have g:KX w0.heap.size XN w' (w'.setCell (J mb 4 Z) v):=KX.setCell w' h.mbB (.inr fun b t fz f=>.inr (.inr (ah f d))) v;refine⟨⟨h.bel.trans (r.to g).below,h.mbB,h.mpB,d.set4 v,az n (fun e=>?_) _ _,az u (fun e=>?_) _ _,p.blk (qh _ _ _ _ fun e=>?_),fun x A=>(h.ents x A).kx (r.to g) (fun h=>h) (fun _ _ h=>h),h.dist⟩,r.to g⟩
 ·obtain⟨_,_,b,f⟩:=af n mb e
  exact absurd (ah f d) (by decide)
 ·obtain⟨_,_,b,f⟩:=af u mb e
  exact absurd (ah f d) (by decide)
 ·obtain⟨B,c,m⟩:=p.isMap
  simp at e;rw[e,d] at m;cases m
end
structure EU (w0:E)(S:Spc)(w:E)(eb:Nat)(nm:ByteArray)(tg:Nat)(G:ByteArray->Nat)(ls:List Lk)(v:QB)(made:List Ent)(V:ByteArray->QB):Prop where
 blk:∃ a cap,EntBlk w eb nm 3 0 ⟨#[]⟩ (Y a (S.f1 tg).actN cap) v 0/\SlIns w0 a (S.f1 tg).actN (S.f1 tg).act
 ge:w0.heap.size<=eb
 row:w.ownsRow w0.heap.size 212 5 v ls.length (eX G ls)
 free:∀ x∈made,G x.name≠eb
 apart:∀ x∈made,∀ k,v.ownBlock=Q k->(V x.name).ownBlock≠Q k
 asked:∀ l∈ls,l.ask=QC->∃ x∈made,x.name=l.name
end Go.Proofs.YtkdimgejdocbbaaGreatDoor.Vp
