import Derived.Test.YtpmnbjkjpnclaaaGreatDoorLX
import Derived.Maps.OwnSet
import Derived.Maps.Views
import Derived.Maps.RangeWalk
import Derived.StringKeys
import Derived.DeepKeys4
open Go renaming Addr.mk->N,Value.slice->Y,Obj.cells->J,IntKind.i64->I,World->M,Value->ZB,TypeId->ZH,World.heap->U,Proofs.Tryz.prog->Pg
open Option renaming none->Z,some->T
open Bool renaming true->ZF
open Array renaming size->Q
namespace Go.Proofs.YtpmnbjkjpnclaaaGreatDoor.Vp
open RowKit Go.Maps
variable {w w':M}{b n mb mp size f C j:Nat}{X:Nat->Prop}{G:List UInt8->Option ZB}{s0 s1 mk md:ZB}{e t:ZH}
def jE (v:ZB):Option (DataW ZB × List MemPlace):=T (.held v,[])
theorem pz:Keyed Pg 9:=MZ IN
def MapN (w:M)(b n:Nat)(G:List UInt8->Option ZB):Prop :=
 ∃D:DataW ZB,w.ownsMap Pg 9 jE b n D/\∀s,Maps.has D (.string s)=(G s).isSome/\∀v,G s=T v->∀f,D.atKey (.string s) f=.held v
theorem AR (w:M):MapN (w.alloc (.map #[] 0)) (Q (U w)) 0 (λ_=>Z) :=
 ⟨_,TG w Pg 9 jE,λs=>⟨by simp[Maps.has],λv h=>by cases h⟩⟩
theorem MapN.isMap (h:MapN w b n G):∃g c,w.heap[b]?=T (.map g c):=by obtain⟨D,⟨g,f,h1,-⟩,-⟩:=h;exact⟨g,f,h1⟩
theorem MapN.ad (h:MapN w b n G)(hb:w'.heap[b]?=w.heap[b]?):MapN w' b n G:=by obtain⟨D,⟨g,f,h1,r⟩,h2⟩:=h;exact⟨D,⟨g,f,hb.trans h1,r⟩,h2⟩
theorem MapN.mono (h:MapN w b n G)(hn:n<=f):MapN w b f G:=by obtain⟨D,h1,h2⟩:=h;exact⟨D,h1.mono hn,h2⟩
theorem MapN.congr{f:List UInt8->Option ZB}(h:MapN w b n G)(g:∀s,G s=f s):MapN w b n f:=by obtain rfl:G=f:=funext g;exact h
theorem sZ{D:DataW ZB}{x:List UInt8}{v:ZB}(i:Maps.IsMap D)(h:∀s,Maps.has D (.string s)=(G s).isSome/\∀v,G s=T v->∀b,D.atKey (.string s) b=.held v):∀s,Maps.has (D.put (.string x) (.held v)) (.string s)=((if s=x then T v else G s:Option ZB)).isSome/\∀u,(if s=x then T v else G s)=T u->∀b,(D.put (.string x) (.held v)).atKey (.string s) b=.held u:=by
 intro s;by_cases e:s=x;{subst e;refine⟨?_,λu f b=>?_⟩;{rw[Maps.has_put_same i (by simp[WideAt.IsKeyLit])];simp};{simp at f;subst f;exact Maps.atKey_put_same i (by simp[WideAt.IsKeyLit]) _ _}}
 ·have g:Lit.string s≠.string x:=by simpa using e
  refine⟨?_,λu f b=>?_⟩;{rw[TF g,eT e];exact(h s).1};{rw[eT e] at f;rw[Maps.atKey_put_other g];exact(h s).2 u f b}
section
variable (w:M){ops:Array Oper}{rest:List Oper}{o:Oper}{a:Act}{ZN:Exit->Act->M->Prop}
theorem xh (A:o.guard=Z)(m x v:Operand)(t:ZH)(i:o.op=Op.mapUpdate t m x v)(e:ZH)(r:Pg.underlying t=T (.map 9 e))(b n:Nat)(G:List UInt8->Option ZB)
  (y:a.eval m=.map (T b)) (h:MapN w b n G) (hn:n<maxLen) (f:ByteArray) (g:ZB) (B:a.eval x=.string f) (z:a.eval v=g) (l:f.size<=maxLen)
  (u:∀w',MapN w' b (n+1) (λs=>if s=f.toList then T g else G s)->w.grownBy w' (T b)->wpList Pg ops ZN rest (a.put o.dst undef) w') :
  wpList Pg ops ZN (o::rest) a w:=by
 obtain⟨D,j,p⟩:=h;refine RP w A m x v t i 9 e pz r jE b n D y j hn (.string f) g _ B z (LP IN l) (.held g) [] rfl ?_;intro q h1 h2;refine u q ⟨_,h1,?_⟩ h2;have:=sZ (x:=f.toList) (v:=g) j.isMap p;rw[JO] at this ⊢;exact this
theorem ie (i:o.guard=Z)(m x:Operand)(t:ZH)(q:o.op=Op.lookup t m x ZF)(e:ZH)(A:Pg.underlying t=T (.map 9 e)){z:ZB}(hz:(zeroValue e).run Pg w=.ok z w)(b n:Nat)(G:List UInt8->Option ZB)
  (H:a.eval m=.map (T b)) (j:MapN w b n G) (g:ByteArray) (ZO:a.eval x=.string g) (s:g.size<=maxLen) (u:ZB) (r:(G g.toList).getD z=u) (f:Bool) (B:(G g.toList).isSome=f)
  (C:wpList Pg ops ZN rest (a.put o.dst (.tuple #[u,.bool f])) w) :
  wpList Pg ops ZN (o::rest) a w:=by
 obtain⟨D,ZP,l⟩:=j;refine wpList_lookup_own_ok w i m x t q 9 e pz A jE hz (.held z) [] rfl b n D H ZP _ _ ZO (LP IN s) ?_;intro v ps p;have h:DataW.held v=D.atKey (.string g.data.toList) (.held z):=by unfold jE at p;simp only[JE,JL] at p;exact p.1
 rw[<-JO] at h ⊢;have y:v=u:=by
  rw[<-r];cases i:G g.toList with
  |none =>
   have E:Maps.has D (.string g.toList)=false:=by rw[(l _).1,i];rfl
   rw[Maps.atKey_of_not_has E] at h;simpa using h
  |some u =>rw[(l _).2 u i] at h;simpa using h
 rw[(l _).1,B,y];exact C
end
structure KX (B:Nat)(X:Nat->Prop)(w w':M):Prop where
 aa:Below B w w'
 ad:∀i cs t fz,w.heap[i]?=T (J cs t fz)->t≠9->t≠172->t≠171->¬ X i->w'.heap[i]?=w.heap[i]?
def XN:Nat->Prop:=λ_=>False
theorem ag{i:Nat}{o:Obj}(h:w.heap[i]?=T o):i<Q (U w):=by
 rcases J7 i (Q (U w)) with b|b;{exact b};{rw[LA b] at h;cases h}
theorem KX.trans{B:Nat}{ZI:Nat->Prop}{b:M}(h:KX B X w w')(k:KX B ZI w' b)(j:∀i,i<Q (U w)->ZI i->X i):KX B X w b :=
 ⟨h.aa.trans k.aa,λi f t fz hi h1 h2 g hX=>by
  have e:=h.ad i f t fz hi h1 h2 g hX;rw[<-e]
  exact k.ad i f t fz (e.trans hi) h1 h2 g λl=>hX (j i (ag hi) l)⟩
theorem KX.to{B:Nat}{b:M}(h:KX B X w w')(k:KX B XN w' b):KX B X w b:=h.trans k λ_ _ h=>h.elim
theorem KX.weak{B:Nat}(h:KX B XN w w'):KX B X w w':=⟨h.aa,λi f t fz hi h1 h2 b _=>h.ad i f t fz hi h1 h2 b λh=>h.elim⟩
theorem KX.q{B:Nat}(h:Below C w w')(b:Q (U w)<=C)(f:B<=Q (U w)):KX B X w w' :=
 ⟨h.mono (nD f b),λi _ _ _ hi _ _ _ _=>h.block i (lj (ag hi) b)⟩
theorem KX.of_only{B:Nat}(h:Only b w w')(hX:X b)(f:B<=Q (U w))(hb:B<=b):KX B X w w' :=
 ⟨h.aa hb f,λi _ _ _ hi _ _ _ g=>h.block i (ag hi) λe=>g (e ▸ hX)⟩
theorem KX.of_grown{B:Nat}{row:Option Nat}(h:w.grownBy w' row)(n:B<=Q (U w))(g:∀j,row=T j->B<=j/\(X j∨∀b t fz,w.heap[j]?=T (J b t fz)->t=9∨t=172∨t=171)):KX B X w w':=by
 refine⟨⟨h.os,h.tape,h.output,h.size,λk l=>h.block k (lj l n) λe=>?_⟩,λi b t fz hi h1 h2 m hX=>h.block i (ag hi) λe=>?_⟩;{have:=(g k e.symm).1;omega};{rcases(g i e.symm).2 with f|f;{exact hX f};{rcases f b t fz hi with e|e|e;{exact h1 e};{exact h2 e};{exact m e}}}
theorem au{f:Array ZB}(h:w.heap[b]?=T (J f t (0,0)))(v:ZB):(w.setCell (N b j Z) v).heap[b]?=T (J (f.setIfInBounds j v) t (0,0)):=by simp only[World.setCell,JV,nL,h,PI];rfl
theorem KX.setCell{B:Nat}(w:M)(hb:B<=b)(f:X b∨∀g t fz,w.heap[b]?=T (J g t fz)->t=9∨t=172∨t=171)(v:ZB):KX B X w (w.setCell (N b j Z) v):=by
 refine⟨(cM B w).setCell hb v,λi g t fz hi h1 h2 h hX=>?_⟩;refine qh _ _ _ _ λe=>?_;simp at e;subst e;rcases f with f|f;{exact hX f};{rcases f g t fz hi with e|e|e;{exact h1 e};{exact h2 e};{exact h e}}
def MkBox (w:M)(mb:Nat)(s0 s1:ZB)(mp:Nat)(mk md:ZB):Prop:=w.heap[mb]?=T (J #[s0,s1,.map (T mp),mk,md] 171 (0,0))
theorem MkBox.K (h:MkBox w mb s0 s1 mp mk md):mb<Q (U w)/\w.cell? (N mb 0 Z)=T s0/\w.cell? (N mb 1 Z)=T s1/\w.cell? (N mb 2 Z)=T (.map (T mp))/\w.cell? (N mb 3 Z)=T mk/\w.cell? (N mb 4 Z)=T md/\∀j,w.frozen? (N mb j Z)=false:=by unfold MkBox at h;refine⟨ag h,?_,?_,?_,?_,?_,λj=>?_⟩;all_goals simp[World.cell?,World.frozen?,h]
theorem MkBox.set3 (h:MkBox w mb s0 s1 mp mk md)(v:ZB):MkBox (w.setCell (N mb 3 Z) v) mb s0 s1 mp v md:=au h v
theorem MkBox.set4 (h:MkBox w mb s0 s1 mp mk md)(v:ZB):MkBox (w.setCell (N mb 4 Z) v) mb s0 s1 mp mk v:=au h v
theorem MkBox.ad (h:MkBox w mb s0 s1 mp mk md)(hb:w'.heap[mb]?=w.heap[mb]?):MkBox w' mb s0 s1 mp mk md:=hb.trans h
def bo (L:List ByteArray):List ZB:=L.map .string
def lK (G:ByteArray->Nat)(made:List Ent):List ZB:=made.map λx=>.pointer (T (N (G x.e) 0 Z))
def pA (G:ByteArray->Nat)(l:Lk):List ZB:=[.string l.e,.bool l.ask,.bool l.has,.int I 0,.pointer (if l.ask=ZF then T (N (G l.e) 0 Z) else Z)]
def fV (G:ByteArray->Nat)(b:List Lk):List ZB:=b.flatMap (pA G)
theorem yK (G:ByteArray->Nat)(b:List Lk)(l:Lk):fV G (b++[l])=fV G b++pA G l:=by simp[fV]
theorem my{G f:ByteArray->Nat}{b:List Lk}(h:∀l∈b,l.ask=ZF->f l.e=G l.e):fV f b=fV G b:=by
 induction b with
 |nil=>rfl
 |cons l b i =>
  have e:pA f l=pA G l:=by
   unfold pA;cases ha:l.ask with
   |false=>rfl
   |true=>rw[h l NL ha]
  have:=i λl g=>h l (mq _ g);simp only[fV,JZ] at this ⊢;rw[e,this]
def de (G:ByteArray->Nat)(b:List ByteArray)(made:List Ent)(s:List UInt8):Option ZB :=
 match made.find? (λe=>e.e.toList == s) with
 |some e=>T (.agg #[.int I 0,.pointer (T (N (G e.e) 0 Z))])
 |none=>(b.findIdx? λx=>x.toList == s).map λ(i:Nat)=>.agg #[.int I (i:Int),.pointer Z]
def EntBlk (w:M)(b:Nat)(nm:ByteArray)(kind code:Int)(text:ByteArray)(act f:ZB)(place:Int):Prop :=
 w.heap[b]?=T (J #[.string nm,.int I kind,.int I code,.string text,act,Y Z 0 0,f,.int I place] 176 (0,0))
def oI (w0:M)(S:Spc)(kind:Int)(tg:Nat)(act:ZB):Prop :=
 if kind=3 then tg<S.n1/\∃a cap,act=Y a (S.f1 tg).m cap/\SlIns w0 a (S.f1 tg).m (S.f1 tg).D else act=Y Z 0 0
structure EntAt (w0:M)(S:Spc)(G:ByteArray->Nat)(w:M)(b:Nat)(v:ZB)(x:Ent):Prop where
 ad:∃act,EntBlk w b x.e x.H x.E x.y act v 0/\oI w0 S x.H x.tg act
 ge:Q (U w0)<=b
 row:w.ownsRow (Q (U w0)) 280 5 v x.looks.length (fV G x.looks)
theorem bI{v:ZB}{i:List ZB}(h:w.ownsRow b e size v n i)(hb:∀k,v.ownBlock=T k->w'.heap[k]?=w.heap[k]?):w'.ownsRow b e size v n i:=by
 obtain⟨h1,h2|⟨g,cap,f,rfl,m,l,j⟩⟩:=h;{exact⟨h1,.inl h2⟩};{exact⟨h1,.inr ⟨g,cap,f,rfl,m,(hb g rfl).trans l,j⟩⟩}
theorem af{v:ZB}{o:List ZB}(h:w.ownsRow b e size v n o):∀k,v.ownBlock=T k->b<=k/\k<Q (U w)/\∃l,w.heap[k]?=T (J l e (0,0)):=by
 intro k f;obtain⟨h1,⟨rfl,_⟩|⟨g,cap,i,rfl,m,j,h5⟩⟩:=h;{cases f}
 ·cases f
  exact⟨m,ag j,i,j⟩
theorem EntAt.kx{w0:M}{S:Spc}{G:ByteArray->Nat}{v:ZB}{x:Ent}{B:Nat}(h:EntAt w0 S G w b v x)(g:KX B X w w')(h1:¬ X b)(h2:∀k,v.ownBlock=T k->¬ X k):EntAt w0 S G w' b v x:=by obtain⟨⟨act,hb,j⟩,l,i⟩:=h;refine⟨⟨act,(g.ad b _ _ _ hb (by decide) (by decide) (by decide) h1).trans hb,j⟩,l,bI i λk f=>?_⟩;obtain⟨_,_,cs,m⟩:=af i k f;exact g.ad k _ _ _ m (by decide) (by decide) (by decide) (h2 k f)
structure MIg (w0:M)(S:Spc)(mb mp:Nat)(s0 s1:ZB)(w:M)(cnt:Nat)(F:List UInt8->Option ZB)(nk:Nat)(ks:List ZB)(np:Nat)(ps:List ZB)(made:List Ent)(G:ByteArray->Nat)(V:ByteArray->ZB)(mk md:ZB):Prop where
 X:Below (Q (U w0)) w0 w
 mbB:Q (U w0)<=mb
 mpB:Q (U w0)<=mp
 ab:MkBox w mb s0 s1 mp mk md
 rmk:w.ownsRow (Q (U w0)) 9 1 mk nk ks
 W:w.ownsRow (Q (U w0)) 172 1 md np ps
 map:MapN w mp cnt F
 ao:∀x∈made,EntAt w0 S G w (G x.e) (V x.e) x
 dist:made.Pairwise λx y=>G x.e≠G y.e
abbrev MI (w0:M)(S:Spc)(mb mp:Nat)(s0 s1:ZB)(w:M)(f b:List ByteArray)(made:List Ent)(G:ByteArray->Nat)(V:ByteArray->ZB)(mk md:ZB):Prop :=
 MIg w0 S mb mp s0 s1 w (2*made.length+f.length) (de G f made) b.length (bo b) made.length (lK G made) made G V mk md
section
variable {w0 w w':M}{S:Spc}{mb mp:Nat}{s0 s1 mk md:ZB}{cnt nk np:Nat}{F:List UInt8->Option ZB}{ks ps:List ZB}{made:List Ent}{G:ByteArray->Nat}{V:ByteArray->ZB}
theorem MIg.lt (h:MIg w0 S mb mp s0 s1 w cnt F nk ks np ps made G V mk md):Q (U w0)<=Q (U w):=h.X.size
theorem MIg.aa (h:MIg w0 S mb mp s0 s1 w cnt F nk ks np ps made G V mk md)(hb:Below C w w')(b:Q (U w)<=C):MIg w0 S mb mp s0 s1 w' cnt F nk ks np ps made G V mk md :=
 have g:KX (Q (U w0)) XN w w':=KX.q hb b h.lt;have f:∀i o,w.heap[i]?=T o->w'.heap[i]?=w.heap[i]?:=λi o hi=>hb.block i (lj (ag hi) b)
 ⟨h.X.trans g.aa,h.mbB,h.mpB,h.ab.ad (f _ _ h.ab),own_below h.rmk hb b,own_below h.W hb b,h.map.ad (by obtain⟨es,c,j⟩:=h.map.isMap;exact f _ _ j),λx l=>(h.ao x l).kx g (λh=>h) (λ_ _ h=>h),h.dist⟩
theorem MIg.kx (h:MIg w0 S mb mp s0 s1 w cnt F nk ks np ps made G V mk md)(m:KX (Q (U w0)) X w w')(b:∀i o,w.heap[i]?=T o->¬ X i->w'.heap[i]?=w.heap[i]?)(h1:¬ X mb)(h2:¬ X mp)(q:∀k,mk.ownBlock=T k->¬ X k)(p:∀k,md.ownBlock=T k->¬ X k)(l:∀x∈made,¬ X (G x.e)/\∀k,(V x.e).ownBlock=T k->¬ X k):MIg w0 S mb mp s0 s1 w' cnt F nk ks np ps made G V mk md :=
 ⟨h.X.trans m.aa,h.mbB,h.mpB,h.ab.ad (b _ _ h.ab h1),bI h.rmk (λk f=>by obtain⟨_,_,n,g⟩:=af h.rmk k f;exact b _ _ g (q k f)),bI h.W (λk f=>by obtain⟨_,_,n,g⟩:=af h.W k f;exact b _ _ g (p k f)),h.map.ad (by obtain⟨es,c,r⟩:=h.map.isMap;exact b _ _ r h2),λx j=>(h.ao x j).kx m (l x j).1 (l x j).2,h.dist⟩
theorem MIg.mapped{cnt':Nat}{F':List UInt8->Option ZB}(h:MIg w0 S mb mp s0 s1 w cnt F nk ks np ps made G V mk md)(o:w.grownBy w' (T mp))(q:MapN w' mp cnt' F'):MIg w0 S mb mp s0 s1 w' cnt' F' nk ks np ps made G V mk md/\KX (Q (U w0)) XN w w':=by
 obtain⟨es,c,f⟩:=h.map.isMap;have n:KX (Q (U w0)) XN w w':=KX.of_grown o h.lt λj p=>by
  cases p
  exact⟨h.mpB,.inr λg t fz b=>by rw[f] at b;cases b⟩
 have m:∀(i:Nat) (g:Array ZB) (t:ZH) (fz:Nat × Nat),w.heap[i]?=T (Obj.cells g t fz)->w'.heap[i]?=w.heap[i]?:=λi g t fz hi=>o.block i (ag hi) λe=>by
  cases e
  rw[f] at hi;cases hi
 exact⟨⟨h.X.trans n.aa,h.mbB,h.mpB,h.ab.ad (m _ _ _ _ h.ab),bI h.rmk (λk l=>by obtain⟨_,_,g,b⟩:=af h.rmk k l;exact m _ _ _ _ b),bI h.W (λk l=>by obtain⟨_,_,g,b⟩:=af h.W k l;exact m _ _ _ _ b),q,λx r=>(h.ao x r).kx n (λh=>h) (λ_ _ h=>h),h.dist⟩,n⟩
theorem ay{w:M}{v:ZB}{g:List ZB}(h:w.ownsRow f e size v n g)(hb:v.ownBlock≠T b)(j:Nat)(u:ZB):(w.setCell (N b j Z) u).ownsRow f e size v n g :=
 bI h λk i=>qh _ _ _ _ λe=>hb (by rw[i];exact A9 T e)
theorem ah{w:M}{m i:Array ZB}{j:ZH}{f l:Nat × Nat}(h:w.heap[b]?=T (J m t f))(g:w.heap[b]?=T (J i j l)):t=j:=by rw[h] at g;simp only[JE,Obj.cells.injEq] at g;exact g.2.1
theorem MIg.mked{nk':Nat}{ks':List ZB}{v:ZB}(h:MIg w0 S mb mp s0 s1 w cnt F nk ks np ps made G V mk md)(y:w.grownBy w' mk.ownBlock)(u:w'.ownsRow (Q (U w0)) 9 1 v nk' ks'):MIg w0 S mb mp s0 s1 (w'.setCell (N mb 3 Z) v) cnt F nk' ks' np ps made G V v md/\KX (Q (U w0)) XN w (w'.setCell (N mb 3 Z) v):=by
 have r:=af h.rmk;have s:KX (Q (U w0)) XN w w':=KX.of_grown y h.lt λj A=>by obtain⟨h1,_,b,h2⟩:=r j A;exact⟨h1,.inr λb t fz g=>.inl (ah g h2)⟩
 have m:∀(i:Nat) (o:Obj),w.heap[i]?=T o->(∀b,o≠Obj.cells b 9 (0,0))->w'.heap[i]?=w.heap[i]?:=λi o hi B=>y.block i (ag hi) λe=>by
  obtain⟨_,_,b,h2⟩:=r i e.symm;rw[hi] at h2;cases h2
  exact B b rfl
 have f:MkBox w' mb s0 s1 mp mk md:=h.ab.ad (m _ _ h.ab (λb e=>by cases e));have q:MapN w' mp cnt F:=h.map.ad (by obtain⟨z,c,n⟩:=h.map.isMap;exact m _ _ n (λb e=>by cases e));have p:w'.ownsRow (Q (U w0)) 172 1 md np ps:=bI h.W λk l=>by obtain⟨_,_,b,g⟩:=af h.W k l;exact m _ _ g λb e=>by cases e
 have l:KX (Q (U w0)) XN w' (w'.setCell (N mb 3 Z) v):=KX.setCell w' h.mbB (.inr λb t fz g=>.inr (.inr (ah g f))) v;refine⟨⟨h.X.trans (s.to l).aa,h.mbB,h.mpB,f.set3 v,ay u (λe=>?_) _ _,ay p (λe=>?_) _ _,q.ad (qh _ _ _ _ λe=>?_),λx C=>(h.ao x C).kx (s.to l) (λh=>h) (λ_ _ h=>h),h.dist⟩,s.to l⟩;{obtain⟨_,_,b,g⟩:=af u mb e;exact absurd (ah g f) (by decide)};{obtain⟨_,_,b,g⟩:=af p mb e;exact absurd (ah g f) (by decide)};{obtain⟨z,c,n⟩:=q.isMap;simp at e;rw[e,f] at n;cases n}
theorem MIg.mded{np':Nat}{ps':List ZB}{v:ZB}(h:MIg w0 S mb mp s0 s1 w cnt F nk ks np ps made G V mk md)(y:w.grownBy w' md.ownBlock)(u:w'.ownsRow (Q (U w0)) 172 1 v np' ps'):MIg w0 S mb mp s0 s1 (w'.setCell (N mb 4 Z) v) cnt F nk ks np' ps' made G V mk v/\KX (Q (U w0)) XN w (w'.setCell (N mb 4 Z) v):=by
 have r:=af h.W;have s:KX (Q (U w0)) XN w w':=KX.of_grown y h.lt λj A=>by obtain⟨h1,_,b,h2⟩:=r j A;exact⟨h1,.inr λb t fz g=>.inr (.inl (ah g h2))⟩
 have m:∀(i:Nat) (o:Obj),w.heap[i]?=T o->(∀b,o≠Obj.cells b 172 (0,0))->w'.heap[i]?=w.heap[i]?:=λi o hi B=>y.block i (ag hi) λe=>by
  obtain⟨_,_,b,h2⟩:=r i e.symm;rw[hi] at h2;cases h2
  exact B b rfl
 have f:MkBox w' mb s0 s1 mp mk md:=h.ab.ad (m _ _ h.ab (λb e=>by cases e));have q:MapN w' mp cnt F:=h.map.ad (by obtain⟨z,c,n⟩:=h.map.isMap;exact m _ _ n (λb e=>by cases e));have p:w'.ownsRow (Q (U w0)) 9 1 mk nk ks:=bI h.rmk λk l=>by obtain⟨_,_,b,g⟩:=af h.rmk k l;exact m _ _ g λb e=>by cases e
 have l:KX (Q (U w0)) XN w' (w'.setCell (N mb 4 Z) v):=KX.setCell w' h.mbB (.inr λb t fz g=>.inr (.inr (ah g f))) v;refine⟨⟨h.X.trans (s.to l).aa,h.mbB,h.mpB,f.set4 v,ay p (λe=>?_) _ _,ay u (λe=>?_) _ _,q.ad (qh _ _ _ _ λe=>?_),λx C=>(h.ao x C).kx (s.to l) (λh=>h) (λ_ _ h=>h),h.dist⟩,s.to l⟩;{obtain⟨_,_,b,g⟩:=af p mb e;exact absurd (ah g f) (by decide)};{obtain⟨_,_,b,g⟩:=af u mb e;exact absurd (ah g f) (by decide)};{obtain⟨z,c,n⟩:=q.isMap;simp at e;rw[e,f] at n;cases n}
end
structure EU (w0:M)(S:Spc)(w:M)(eb:Nat)(nm:ByteArray)(tg:Nat)(G:ByteArray->Nat)(ls:List Lk)(v:ZB)(made:List Ent)(V:ByteArray->ZB):Prop where
 ad:∃a cap,EntBlk w eb nm 3 0 ⟨#[]⟩ (Y a (S.f1 tg).m cap) v 0/\SlIns w0 a (S.f1 tg).m (S.f1 tg).D
 ge:Q (U w0)<=eb
 row:w.ownsRow (Q (U w0)) 280 5 v ls.length (fV G ls)
 free:∀x∈made,G x.e≠eb
 apart:∀x∈made,∀k,v.ownBlock=T k->(V x.e).ownBlock≠T k
 asked:∀l∈ls,l.ask=ZF->∃x∈made,x.e=l.e
