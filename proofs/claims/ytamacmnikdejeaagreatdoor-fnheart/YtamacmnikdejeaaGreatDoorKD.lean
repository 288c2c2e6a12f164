import Derived.Test.YtamacmnikdejeaaGreatDoorLT
import Derived.Maps.OwnSet
import Derived.Maps.Views
import Derived.Maps.RangeWalk
import Derived.StringKeys
import Derived.DeepKeys4
open Go renaming Addr.mk->Q,Value.slice->Y,Obj.cells->N,IntKind.i64->I,World->E,Value->ZB,TypeId->ZH,World.heap->U,Proofs.Tryz.prog->Pg
open Option renaming none->Z,some->T
open Bool renaming true->ZD
open Array renaming size->J
namespace Go.Proofs.YtamacmnikdejeaaGreatDoor.Vp
open RowKit Go.Maps
variable {b n mb mp size f C j:Nat}{w' w:E}{X:Nat->Prop}{G:List UInt8->Option ZB}{s0 s1 mk md:ZB}{e t:ZH}
def ko (v:ZB):Option (DataW ZB × List MemPlace):=T (.held v,[])
theorem qP:Keyed Pg 9:=SJ KT
def MapN (w:E)(b n:Nat)(G:List UInt8->Option ZB):Prop :=
 ∃D:DataW ZB,w.ownsMap Pg 9 ko b n D/\∀s,Maps.has D (.string s)=(G s).isSome/\∀v,G s=T v->∀f,D.atKey (.string s) f=.held v
theorem Do (w:E):MapN (w.alloc (.map #[] 0)) (J (U w)) 0 (λ_=>Z) :=
 ⟨_,World.ownsMap_made w Pg 9 ko,λs=>⟨by simp[Maps.has],λv h=>by cases h⟩⟩
theorem MapN.isMap (h:MapN w b n G):∃g c,w.heap[b]?=T (.map g c):=by obtain⟨D,⟨g,f,h1,-⟩,-⟩:=h;exact⟨g,f,h1⟩
theorem MapN.ab (h:MapN w b n G)(hb:w'.heap[b]?=w.heap[b]?):MapN w' b n G:=by obtain⟨D,⟨g,f,h1,r⟩,h2⟩:=h;exact⟨D,⟨g,f,hb.trans h1,r⟩,h2⟩
theorem MapN.mono (h:MapN w b n G)(hn:n<=f):MapN w b f G:=by obtain⟨D,h1,h2⟩:=h;exact⟨D,h1.mono hn,h2⟩
theorem MapN.congr{f:List UInt8->Option ZB}(h:MapN w b n G)(g:∀s,G s=f s):MapN w b n f:=by obtain rfl:G=f:=funext g;exact h
theorem uH{D:DataW ZB}{x:List UInt8}{v:ZB}(i:Maps.IsMap D)(h:∀s,Maps.has D (.string s)=(G s).isSome/\∀v,G s=T v->∀b,D.atKey (.string s) b=.held v):∀s,Maps.has (D.put (.string x) (.held v)) (.string s)=((if s=x then T v else G s:Option ZB)).isSome/\∀u,(if s=x then T v else G s)=T u->∀b,(D.put (.string x) (.held v)).atKey (.string s) b=.held u:=by
 intro s;by_cases e:s=x;{subst e;refine⟨?_,λu f b=>?_⟩;{rw[Maps.has_put_same i (by simp[WideAt.IsKeyLit])];simp};{simp at f;subst f;exact Maps.atKey_put_same i (by simp[WideAt.IsKeyLit]) _ _}}
 ·have g:Lit.string s≠.string x:=by simpa using e
  refine⟨?_,λu f b=>?_⟩;{rw[Maps.has_put_other g,eT e];exact(h s).1};{rw[eT e] at f;rw[Maps.atKey_put_other g];exact(h s).2 u f b}
section
variable (w:E){ops:Array Oper}{rest:List Oper}{o:Oper}{a:Act}{ZM:Exit->Act->E->Prop}
theorem yG (l:o.guard=Z)(m x v:Operand)(t:ZH)(i:o.op=Op.mapUpdate t m x v)(e:ZH)(u:Pg.underlying t=T (.map 9 e))(b n:Nat)(G:List UInt8->Option ZB)
  (r:a.eval m=.map (T b)) (h:MapN w b n G) (hn:n<maxLen) (g:ByteArray) (f:ZB) (y:a.eval x=.string g) (A:a.eval v=f) (p:g.size<=maxLen)
  (q:∀w',MapN w' b (n+1) (λs=>if s=g.toList then T f else G s)->w.grownBy w' (T b)->wpList Pg ops ZM rest (a.put o.dst undef) w') :
  wpList Pg ops ZM (o::rest) a w:=by
 obtain⟨D,j,z⟩:=h;refine wpList_mapUpdate_own w l m x v t i 9 e qP u ko b n D r j hn (.string g) f _ y A (OU KT p) (.held f) [] rfl ?_;intro B h1 h2;refine q B ⟨_,h1,?_⟩ h2;have:=uH (x:=g.toList) (v:=f) j.isMap z;rw[LF] at this ⊢;exact this
theorem iD (i:o.guard=Z)(m x:Operand)(t:ZH)(q:o.op=Op.lookup t m x ZD)(e:ZH)(ZQ:Pg.underlying t=T (.map 9 e)){z:ZB}(hz:(zeroValue e).run Pg w=.ok z w)(b n:Nat)(G:List UInt8->Option ZB)
  (B:a.eval m=.map (T b)) (p:MapN w b n G) (g:ByteArray) (H:a.eval x=.string g) (r:g.size<=maxLen) (u:ZB) (y:(G g.toList).getD z=u) (f:Bool) (C:(G g.toList).isSome=f)
  (s:wpList Pg ops ZM rest (a.put o.dst (.tuple #[u,.bool f])) w) :
  wpList Pg ops ZM (o::rest) a w:=by
 obtain⟨D,ZP,j⟩:=p;refine wpList_lookup_own_ok w i m x t q 9 e qP ZQ ko hz (.held z) [] rfl b n D B ZP _ _ H (OU KT r) ?_;intro v ps l;have h:DataW.held v=D.atKey (.string g.data.toList) (.held z):=by unfold ko at l;simp only[KJ,KH] at l;exact l.1
 rw[<-LF] at h ⊢;have A:v=u:=by
  rw[<-y];cases i:G g.toList with
  |none =>
   have ZO:Maps.has D (.string g.toList)=false:=by rw[(j _).1,i];rfl
   rw[Maps.atKey_of_not_has ZO] at h;simpa using h
  |some u =>rw[(j _).2 u i] at h;simpa using h
 rw[(j _).1,C,A];exact s
end
structure KX (B:Nat)(X:Nat->Prop)(w w':E):Prop where
 aa:Below B w w'
 ab:∀i cs t fz,w.heap[i]?=T (N cs t fz)->t≠9->t≠134->t≠196->¬ X i->w'.heap[i]?=w.heap[i]?
def XN:Nat->Prop:=λ_=>False
theorem ah{i:Nat}{o:Obj}(h:w.heap[i]?=T o):i<J (U w):=by
 rcases MG i (J (U w)) with b|b;{exact b};{rw[MS b] at h;cases h}
theorem KX.trans{B:Nat}{ZI:Nat->Prop}{b:E}(h:KX B X w w')(k:KX B ZI w' b)(g:∀i,i<J (U w)->ZI i->X i):KX B X w b :=
 ⟨h.aa.trans k.aa,λi f t fz hi h1 h2 j hX=>by
  have e:=h.ab i f t fz hi h1 h2 j hX;rw[<-e]
  exact k.ab i f t fz (e.trans hi) h1 h2 j λl=>hX (g i (ah hi) l)⟩
theorem KX.to{B:Nat}{b:E}(h:KX B X w w')(k:KX B XN w' b):KX B X w b:=h.trans k λ_ _ h=>h.elim
theorem KX.weak{B:Nat}(h:KX B XN w w'):KX B X w w':=⟨h.aa,λi b t fz hi h1 h2 f _=>h.ab i b t fz hi h1 h2 f λh=>h.elim⟩
theorem KX.q{B:Nat}(h:Below C w w')(b:J (U w)<=C)(f:B<=J (U w)):KX B X w w' :=
 ⟨h.mono (nL f b),λi _ _ _ hi _ _ _ _=>h.block i (lj (ah hi) b)⟩
theorem KX.of_only{B:Nat}(h:Only b w w')(hX:X b)(g:B<=J (U w))(hb:B<=b):KX B X w w' :=
 ⟨h.aa hb g,λi _ _ _ hi _ _ _ f=>h.block i (ah hi) λe=>f (e ▸ hX)⟩
theorem KX.of_grown{B:Nat}{row:Option Nat}(h:w.grownBy w' row)(m:B<=J (U w))(g:∀j,row=T j->B<=j/\(X j∨∀b t fz,w.heap[j]?=T (N b t fz)->t=9∨t=134∨t=196)):KX B X w w':=by
 refine⟨⟨h.os,h.tape,h.output,h.size,λk l=>h.block k (lj l m) λe=>?_⟩,λi b t fz hi h1 h2 n hX=>h.block i (ah hi) λe=>?_⟩;{have:=(g k e.symm).1;omega};{rcases(g i e.symm).2 with f|f;{exact hX f};{rcases f b t fz hi with e|e|e;{exact h1 e};{exact h2 e};{exact n e}}}
theorem aw{f:Array ZB}(h:w.heap[b]?=T (N f t (0,0)))(v:ZB):(w.setCell (Q b j Z) v).heap[b]?=T (N (f.setIfInBounds j v) t (0,0)):=by simp only[World.setCell,LE,j6,h,QY];rfl
theorem KX.setCell{B:Nat}(w:E)(hb:B<=b)(f:X b∨∀g t fz,w.heap[b]?=T (N g t fz)->t=9∨t=134∨t=196)(v:ZB):KX B X w (w.setCell (Q b j Z) v):=by
 refine⟨(cM B w).setCell hb v,λi g t fz hi h1 h2 h hX=>?_⟩;refine qh _ _ _ _ λe=>?_;simp at e;subst e;rcases f with f|f;{exact hX f};{rcases f g t fz hi with e|e|e;{exact h1 e};{exact h2 e};{exact h e}}
def MkBox (w:E)(mb:Nat)(s0 s1:ZB)(mp:Nat)(mk md:ZB):Prop:=w.heap[mb]?=T (N #[s0,s1,.map (T mp),mk,md] 196 (0,0))
theorem MkBox.D (h:MkBox w mb s0 s1 mp mk md):mb<J (U w)/\w.cell? (Q mb 0 Z)=T s0/\w.cell? (Q mb 1 Z)=T s1/\w.cell? (Q mb 2 Z)=T (.map (T mp))/\w.cell? (Q mb 3 Z)=T mk/\w.cell? (Q mb 4 Z)=T md/\∀j,w.frozen? (Q mb j Z)=false:=by unfold MkBox at h;refine⟨ah h,?_,?_,?_,?_,?_,λj=>?_⟩;all_goals simp[World.cell?,World.frozen?,h]
theorem MkBox.set3 (h:MkBox w mb s0 s1 mp mk md)(v:ZB):MkBox (w.setCell (Q mb 3 Z) v) mb s0 s1 mp v md:=aw h v
theorem MkBox.set4 (h:MkBox w mb s0 s1 mp mk md)(v:ZB):MkBox (w.setCell (Q mb 4 Z) v) mb s0 s1 mp mk v:=aw h v
theorem MkBox.ab (h:MkBox w mb s0 s1 mp mk md)(hb:w'.heap[mb]?=w.heap[mb]?):MkBox w' mb s0 s1 mp mk md:=hb.trans h
def bA (L:List ByteArray):List ZB:=L.map .string
def jr (G:ByteArray->Nat)(made:List Ent):List ZB:=made.map λx=>.pointer (T (Q (G x.e) 0 Z))
def lJ (G:ByteArray->Nat)(l:Lk):List ZB:=[.string l.e,.bool l.ask,.bool l.has,.int I 0,.pointer (if l.ask=ZD then T (Q (G l.e) 0 Z) else Z)]
def fc (G:ByteArray->Nat)(b:List Lk):List ZB:=b.flatMap (lJ G)
theorem Ap (G:ByteArray->Nat)(b:List Lk)(l:Lk):fc G (b++[l])=fc G b++lJ G l:=by simp[fc]
theorem nU{G f:ByteArray->Nat}{b:List Lk}(h:∀l∈b,l.ask=ZD->f l.e=G l.e):fc f b=fc G b:=by
 induction b with
 |nil=>rfl
 |cons l b i =>
  have e:lJ f l=lJ G l:=by
   unfold lJ;cases ha:l.ask with
   |false=>rfl
   |true=>rw[h l NH ha]
  have:=i λl g=>h l (mq _ g);simp only[fc,LI] at this ⊢;rw[e,this]
def dB (G:ByteArray->Nat)(b:List ByteArray)(made:List Ent)(s:List UInt8):Option ZB :=
 match made.find? (λe=>e.e.toList == s) with
 |some e=>T (.agg #[.int I 0,.pointer (T (Q (G e.e) 0 Z))])
 |none=>(b.findIdx? λx=>x.toList == s).map λ(i:Nat)=>.agg #[.int I (i:Int),.pointer Z]
def EntBlk (w:E)(b:Nat)(nm:ByteArray)(kind code:Int)(text:ByteArray)(act f:ZB)(place:Int):Prop :=
 w.heap[b]?=T (N #[.string nm,.int I kind,.int I code,.string text,act,Y Z 0 0,f,.int I place] 137 (0,0))
def nA (w0:E)(S:Spc)(kind:Int)(tg:Nat)(act:ZB):Prop :=
 if kind=3 then tg<S.n1/\∃a cap,act=Y a (S.f1 tg).h cap/\SlIns w0 a (S.f1 tg).h (S.f1 tg).u else act=Y Z 0 0
structure EntAt (w0:E)(S:Spc)(G:ByteArray->Nat)(w:E)(b:Nat)(v:ZB)(x:Ent):Prop where
 ab:∃act,EntBlk w b x.e x.L x.M x.H act v 0/\nA w0 S x.L x.tg act
 ge:J (U w0)<=b
 row:w.ownsRow (J (U w0)) 200 5 v x.looks.length (fc G x.looks)
theorem bO{v:ZB}{i:List ZB}(h:w.ownsRow b e size v n i)(hb:∀k,v.ownBlock=T k->w'.heap[k]?=w.heap[k]?):w'.ownsRow b e size v n i:=by
 obtain⟨h1,h2|⟨g,cap,f,rfl,m,l,j⟩⟩:=h;{exact⟨h1,.inl h2⟩};{exact⟨h1,.inr ⟨g,cap,f,rfl,m,(hb g rfl).trans l,j⟩⟩}
theorem af{v:ZB}{m:List ZB}(h:w.ownsRow b e size v n m):∀k,v.ownBlock=T k->b<=k/\k<J (U w)/\∃l,w.heap[k]?=T (N l e (0,0)):=by
 intro k f;obtain⟨h1,⟨rfl,_⟩|⟨g,cap,j,rfl,o,i,h5⟩⟩:=h;{cases f}
 ·cases f
  exact⟨o,ah i,j,i⟩
theorem EntAt.kx{w0:E}{S:Spc}{G:ByteArray->Nat}{v:ZB}{x:Ent}{B:Nat}(h:EntAt w0 S G w b v x)(i:KX B X w w')(h1:¬ X b)(h2:∀k,v.ownBlock=T k->¬ X k):EntAt w0 S G w' b v x:=by obtain⟨⟨act,hb,l⟩,j,g⟩:=h;refine⟨⟨act,(i.ab b _ _ _ hb (by decide) (by decide) (by decide) h1).trans hb,l⟩,j,bO g λk f=>?_⟩;obtain⟨_,_,cs,m⟩:=af g k f;exact i.ab k _ _ _ m (by decide) (by decide) (by decide) (h2 k f)
structure MIg (w0:E)(S:Spc)(mb mp:Nat)(s0 s1:ZB)(w:E)(cnt:Nat)(F:List UInt8->Option ZB)(nk:Nat)(ks:List ZB)(np:Nat)(ps:List ZB)(made:List Ent)(G:ByteArray->Nat)(V:ByteArray->ZB)(mk md:ZB):Prop where
 ak:Below (J (U w0)) w0 w
 mbB:J (U w0)<=mb
 mpB:J (U w0)<=mp
 l:MkBox w mb s0 s1 mp mk md
 rmk:w.ownsRow (J (U w0)) 9 1 mk nk ks
 ag:w.ownsRow (J (U w0)) 134 1 md np ps
 map:MapN w mp cnt F
 W:∀x∈made,EntAt w0 S G w (G x.e) (V x.e) x
 dist:made.Pairwise λx y=>G x.e≠G y.e
abbrev MI (w0:E)(S:Spc)(mb mp:Nat)(s0 s1:ZB)(w:E)(f b:List ByteArray)(made:List Ent)(G:ByteArray->Nat)(V:ByteArray->ZB)(mk md:ZB):Prop :=
 MIg w0 S mb mp s0 s1 w (2*made.length+f.length) (dB G f made) b.length (bA b) made.length (jr G made) made G V mk md
section
variable {w0 w w':E}{S:Spc}{mb mp:Nat}{s0 s1 mk md:ZB}{cnt nk np:Nat}{F:List UInt8->Option ZB}{ks ps:List ZB}{made:List Ent}{G:ByteArray->Nat}{V:ByteArray->ZB}
theorem MIg.lt (h:MIg w0 S mb mp s0 s1 w cnt F nk ks np ps made G V mk md):J (U w0)<=J (U w):=h.ak.size
theorem MIg.aa (h:MIg w0 S mb mp s0 s1 w cnt F nk ks np ps made G V mk md)(hb:Below C w w')(b:J (U w)<=C):MIg w0 S mb mp s0 s1 w' cnt F nk ks np ps made G V mk md :=
 have g:KX (J (U w0)) XN w w':=KX.q hb b h.lt;have f:∀i o,w.heap[i]?=T o->w'.heap[i]?=w.heap[i]?:=λi o hi=>hb.block i (lj (ah hi) b)
 ⟨h.ak.trans g.aa,h.mbB,h.mpB,h.l.ab (f _ _ h.l),own_below h.rmk hb b,own_below h.ag hb b,h.map.ab (by obtain⟨es,c,l⟩:=h.map.isMap;exact f _ _ l),λx j=>(h.W x j).kx g (λh=>h) (λ_ _ h=>h),h.dist⟩
theorem MIg.kx (h:MIg w0 S mb mp s0 s1 w cnt F nk ks np ps made G V mk md)(l:KX (J (U w0)) X w w')(b:∀i o,w.heap[i]?=T o->¬ X i->w'.heap[i]?=w.heap[i]?)(h1:¬ X mb)(h2:¬ X mp)(r:∀k,mk.ownBlock=T k->¬ X k)(p:∀k,md.ownBlock=T k->¬ X k)(m:∀x∈made,¬ X (G x.e)/\∀k,(V x.e).ownBlock=T k->¬ X k):MIg w0 S mb mp s0 s1 w' cnt F nk ks np ps made G V mk md :=
 ⟨h.ak.trans l.aa,h.mbB,h.mpB,h.l.ab (b _ _ h.l h1),bO h.rmk (λk f=>by obtain⟨_,_,n,j⟩:=af h.rmk k f;exact b _ _ j (r k f)),bO h.ag (λk f=>by obtain⟨_,_,n,j⟩:=af h.ag k f;exact b _ _ j (p k f)),h.map.ab (by obtain⟨es,c,q⟩:=h.map.isMap;exact b _ _ q h2),λx g=>(h.W x g).kx l (m x g).1 (m x g).2,h.dist⟩
theorem MIg.mapped{cnt':Nat}{F':List UInt8->Option ZB}(h:MIg w0 S mb mp s0 s1 w cnt F nk ks np ps made G V mk md)(o:w.grownBy w' (T mp))(p:MapN w' mp cnt' F'):MIg w0 S mb mp s0 s1 w' cnt' F' nk ks np ps made G V mk md/\KX (J (U w0)) XN w w':=by
 obtain⟨es,c,m⟩:=h.map.isMap;have n:KX (J (U w0)) XN w w':=KX.of_grown o h.lt λj r=>by
  cases r
  exact⟨h.mpB,.inr λf t fz b=>by rw[m] at b;cases b⟩
 have g:∀(i:Nat) (f:Array ZB) (t:ZH) (fz:Nat × Nat),w.heap[i]?=T (Obj.cells f t fz)->w'.heap[i]?=w.heap[i]?:=λi f t fz hi=>o.block i (ah hi) λe=>by
  cases e
  rw[m] at hi;cases hi
 exact⟨⟨h.ak.trans n.aa,h.mbB,h.mpB,h.l.ab (g _ _ _ _ h.l),bO h.rmk (λk l=>by obtain⟨_,_,f,b⟩:=af h.rmk k l;exact g _ _ _ _ b),bO h.ag (λk l=>by obtain⟨_,_,f,b⟩:=af h.ag k l;exact g _ _ _ _ b),p,λx q=>(h.W x q).kx n (λh=>h) (λ_ _ h=>h),h.dist⟩,n⟩
theorem aA{v:ZB}{g:List ZB}(h:w.ownsRow f e size v n g)(hb:v.ownBlock≠T b)(j:Nat)(u:ZB):(w.setCell (Q b j Z) u).ownsRow f e size v n g :=
 bO h λk i=>qh _ _ _ _ λe=>hb (by rw[i];exact CV T e)
theorem ai{l i:Array ZB}{j:ZH}{f m:Nat × Nat}(h:w.heap[b]?=T (N l t f))(g:w.heap[b]?=T (N i j m)):t=j:=by rw[h] at g;simp only[KJ,Obj.cells.injEq] at g;exact g.2.1
theorem MIg.mked{nk':Nat}{ks':List ZB}{v:ZB}(h:MIg w0 S mb mp s0 s1 w cnt F nk ks np ps made G V mk md)(u:w.grownBy w' mk.ownBlock)(y:w'.ownsRow (J (U w0)) 9 1 v nk' ks'):MIg w0 S mb mp s0 s1 (w'.setCell (Q mb 3 Z) v) cnt F nk' ks' np ps made G V v md/\KX (J (U w0)) XN w (w'.setCell (Q mb 3 Z) v):=by
 have q:=af h.rmk;have s:KX (J (U w0)) XN w w':=KX.of_grown u h.lt λj C=>by obtain⟨h1,_,b,h2⟩:=q j C;exact⟨h1,.inr λb t fz g=>.inl (ai g h2)⟩
 have m:∀(i:Nat) (o:Obj),w.heap[i]?=T o->(∀b,o≠Obj.cells b 9 (0,0))->w'.heap[i]?=w.heap[i]?:=λi o hi z=>u.block i (ah hi) λe=>by
  obtain⟨_,_,b,h2⟩:=q i e.symm;rw[hi] at h2;cases h2
  exact z b rfl
 have f:MkBox w' mb s0 s1 mp mk md:=h.l.ab (m _ _ h.l (λb e=>by cases e));have p:MapN w' mp cnt F:=h.map.ab (by obtain⟨A,c,n⟩:=h.map.isMap;exact m _ _ n (λb e=>by cases e));have r:w'.ownsRow (J (U w0)) 134 1 md np ps:=bO h.ag λk l=>by obtain⟨_,_,b,g⟩:=af h.ag k l;exact m _ _ g λb e=>by cases e
 have l:KX (J (U w0)) XN w' (w'.setCell (Q mb 3 Z) v):=KX.setCell w' h.mbB (.inr λb t fz g=>.inr (.inr (ai g f))) v;refine⟨⟨h.ak.trans (s.to l).aa,h.mbB,h.mpB,f.set3 v,aA y (λe=>?_) _ _,aA r (λe=>?_) _ _,p.ab (qh _ _ _ _ λe=>?_),λx B=>(h.W x B).kx (s.to l) (λh=>h) (λ_ _ h=>h),h.dist⟩,s.to l⟩;{obtain⟨_,_,b,g⟩:=af y mb e;exact absurd (ai g f) (by decide)};{obtain⟨_,_,b,g⟩:=af r mb e;exact absurd (ai g f) (by decide)};{obtain⟨A,c,n⟩:=p.isMap;simp at e;rw[e,f] at n;cases n}
theorem MIg.mded{np':Nat}{ps':List ZB}{v:ZB}(h:MIg w0 S mb mp s0 s1 w cnt F nk ks np ps made G V mk md)(u:w.grownBy w' md.ownBlock)(y:w'.ownsRow (J (U w0)) 134 1 v np' ps'):MIg w0 S mb mp s0 s1 (w'.setCell (Q mb 4 Z) v) cnt F nk ks np' ps' made G V mk v/\KX (J (U w0)) XN w (w'.setCell (Q mb 4 Z) v):=by
 have q:=af h.ag;have s:KX (J (U w0)) XN w w':=KX.of_grown u h.lt λj C=>by obtain⟨h1,_,b,h2⟩:=q j C;exact⟨h1,.inr λb t fz g=>.inr (.inl (ai g h2))⟩
 have m:∀(i:Nat) (o:Obj),w.heap[i]?=T o->(∀b,o≠Obj.cells b 134 (0,0))->w'.heap[i]?=w.heap[i]?:=λi o hi z=>u.block i (ah hi) λe=>by
  obtain⟨_,_,b,h2⟩:=q i e.symm;rw[hi] at h2;cases h2
  exact z b rfl
 have f:MkBox w' mb s0 s1 mp mk md:=h.l.ab (m _ _ h.l (λb e=>by cases e));have p:MapN w' mp cnt F:=h.map.ab (by obtain⟨A,c,n⟩:=h.map.isMap;exact m _ _ n (λb e=>by cases e));have r:w'.ownsRow (J (U w0)) 9 1 mk nk ks:=bO h.rmk λk l=>by obtain⟨_,_,b,g⟩:=af h.rmk k l;exact m _ _ g λb e=>by cases e
 have l:KX (J (U w0)) XN w' (w'.setCell (Q mb 4 Z) v):=KX.setCell w' h.mbB (.inr λb t fz g=>.inr (.inr (ai g f))) v;refine⟨⟨h.ak.trans (s.to l).aa,h.mbB,h.mpB,f.set4 v,aA r (λe=>?_) _ _,aA y (λe=>?_) _ _,p.ab (qh _ _ _ _ λe=>?_),λx B=>(h.W x B).kx (s.to l) (λh=>h) (λ_ _ h=>h),h.dist⟩,s.to l⟩;{obtain⟨_,_,b,g⟩:=af r mb e;exact absurd (ai g f) (by decide)};{obtain⟨_,_,b,g⟩:=af y mb e;exact absurd (ai g f) (by decide)};{obtain⟨A,c,n⟩:=p.isMap;simp at e;rw[e,f] at n;cases n}
end
structure EU (w0:E)(S:Spc)(w:E)(eb:Nat)(nm:ByteArray)(tg:Nat)(G:ByteArray->Nat)(ls:List Lk)(v:ZB)(made:List Ent)(V:ByteArray->ZB):Prop where
 ab:∃a cap,EntBlk w eb nm 3 0 ⟨#[]⟩ (Y a (S.f1 tg).h cap) v 0/\SlIns w0 a (S.f1 tg).h (S.f1 tg).u
 ge:J (U w0)<=eb
 row:w.ownsRow (J (U w0)) 200 5 v ls.length (fc G ls)
 free:∀x∈made,G x.e≠eb
 apart:∀x∈made,∀k,v.ownBlock=T k->(V x.e).ownBlock≠T k
 asked:∀l∈ls,l.ask=ZD->∃x∈made,x.e=l.e
