import Derived.Test.YtcnilonhfpimnaaGreatDoorFZ
import Derived.Maps.OwnSet
import Derived.Maps.Views
import Derived.Maps.RangeWalk
import Derived.StringKeys
import Derived.DeepKeys4
set_option linter.all false
open Go renaming Addr.mk->T,Value.slice->Y,Obj.cells->N,IntKind.i64->I,World->E,Value->ZB,TypeId->ZK,World.heap->U,World.ownsRow->A,World.setCell->ZU,Proofs.Tryz.prog->Pg
open Option renaming none->Z,some->Q
open Bool renaming true->ZH
open Array renaming size->J
namespace Go.Proofs.YtcnilonhfpimnaaGreatDoor.Vp
open RowKit Go.Maps
variable {w w':E}{b n mb mp size f C j:Nat}{X:Nat->Prop}{G:List UInt8->Option ZB}{mk md:ZB}{e t:ZK}
def lD (v:ZB):Option (DataW ZB × List MemPlace):=Q (.held v,[])
def rO:Keyed Pg 9:=SY ES
def MapN (w:E)(b n:Nat)(G:List UInt8->Option ZB):Prop:=
 ∃D:DataW ZB,w.ownsMap Pg 9 lD b n D/\∀s,Maps.has D (.string s)=(G s).isSome/\∀v,G s=Q v->∀f,D.atKey (.string s) f=.held v
def FK (w:E):MapN (w.alloc (.map #[] 0)) (J (U w)) 0 (λ_=>Z):=
 ⟨_,YF w Pg 9 lD,λs=>⟨by simp[Maps.has],λv h=>by cases h⟩⟩
def MapN.isMap (h:MapN w b n G):∃g c,w.heap[b]?=Q (.map g c):=by obtain⟨D,⟨g,f,h1,-⟩,-⟩:=h;exact⟨g,f,h1⟩
def MapN.ad (h:MapN w b n G)(hb:w'.heap[b]?=w.heap[b]?):MapN w' b n G:=by obtain⟨D,⟨g,f,h1,r⟩,h2⟩:=h;exact⟨D,⟨g,f,hb.k h1,r⟩,h2⟩
def MapN.P (h:MapN w b n G)(hn:n<=f):MapN w b f G:=by obtain⟨D,h1,h2⟩:=h;exact⟨D,h1.P hn,h2⟩
def MapN.congr{f:List UInt8->Option ZB}(h:MapN w b n G)(g:∀s,G s=f s):MapN w b n f:=by obtain rfl:G=f:=funext g;exact h
def vS{D:DataW ZB}{x:List UInt8}{v:ZB}(i:Maps.IsMap D)(h:∀s,Maps.has D (.string s)=(G s).isSome/\∀v,G s=Q v->∀b,D.atKey (.string s) b=.held v):∀s,Maps.has (D.put (.string x) (.held v)) (.string s)=((if s=x then Q v else G s:Option ZB)).isSome/\∀u,(if s=x then Q v else G s)=Q u->∀b,(D.put (.string x) (.held v)).atKey (.string s) b=.held u:=by
 intro s;by_cases e:s=x;{subst e;refine⟨?_,λu f b=>?_⟩;{rw[Maps.has_put_same i (by simp[WideAt.IsKeyLit])];simp};{simp at f;subst f;exact Maps.atKey_put_same i (by simp[WideAt.IsKeyLit]) _ _}}
 ·have g:Lit.string s≠.string x:=by simpa using e
  refine⟨?_,λu f b=>?_⟩;{rw[YE g,eI e];exact(h s).1};{rw[eI e] at f;rw[Maps.atKey_put_other g];exact(h s).2 u f b}
section
variable (w:E){ops:Array Oper}{rest:List Oper}{o:Oper}{a:Act}{ZO:Exit->Act->E->Prop}
def Al (y:o.guard=Z)(m x v:Operand)(t:ZK)(j:o.op=Op.mapUpdate t m x v)(e:ZK)(r:Pg.underlying t=Q (.map 9 e))(b n:Nat)(G:List UInt8->Option ZB)
  (z:a.eval m=.map (Q b)) (h:MapN w b n G) (hn:n<maxLen) (g:F_) (f:ZB) (u:a.eval x=.string g) (q:a.eval v=f) (B:g.size<=maxLen)
  (p:∀w',MapN w' b (n+1) (λs=>if s=g.toList then Q f else G s)->w.grownBy w' (Q b)->wpList Pg ops ZO rest (a.put o.dst undef) w') :
  wpList Pg ops ZO (o::rest) a w:=by
 obtain⟨D,i,ZV⟩:=h;refine WZ w y m x v t j 9 e rO r lD b n D z i hn (.string g) f _ u q (QS ES B) (.held f) [] rfl ?_;intro l h1 h2;refine p l ⟨_,h1,?_⟩ h2;have:=vS (x:=g.toList) (v:=f) i.isMap ZV;rw[NJ] at this ⊢;exact this
def jk (i:o.guard=Z)(m x:Operand)(t:ZK)(q:o.op=Op.lookup t m x ZH)(e:ZK)(y:Pg.underlying t=Q (.map 9 e)){z:ZB}(hz:(zeroValue e).run Pg w=.ok z w)(b n:Nat)(G:List UInt8->Option ZB)
  (C:a.eval m=.map (Q b)) (p:MapN w b n G) (g:F_) (ZV:a.eval x=.string g) (ZR:g.size<=maxLen) (u:ZB) (B:(G g.toList).getD z=u) (f:Bool) (ZT:(G g.toList).isSome=f)
  (s:wpList Pg ops ZO rest (a.put o.dst (.tuple #[u,.bool f])) w) :
  wpList Pg ops ZO (o::rest) a w:=by
 obtain⟨D,H,l⟩:=p;refine wpList_lookup_own_ok w i m x t q 9 e rO y lD hz (.held z) [] rfl b n D C H _ _ ZV (QS ES ZR) ?_;intro v ps j;have h:DataW.held v=D.atKey (.string g.data.toList) (.held z):=by unfold lD at j;simp only[L8,LK] at j;exact j.1
 rw[<-NJ] at h ⊢;have r:v=u:=by
  rw[<-B];cases i:G g.toList with
  |none =>
   have ZS:Maps.has D (.string g.toList)=false:=by rw[(l _).1,i];rfl
   rw[Maps.atKey_of_not_has ZS] at h;simpa using h
  |some u =>rw[(l _).2 u i] at h;simpa using h
 rw[(l _).1,ZT,r];exact s
end
structure KX (B:Nat)(X:Nat->Prop)(w w':E):Prop where
 aa:Below B w w'
 ad:∀i cs t fz,w.heap[i]?=Q (N cs t fz)->t≠9->t≠131->t≠180->¬ X i->w'.heap[i]?=w.heap[i]?
def XN:Nat->Prop:=λ_=>False
def ah{i:Nat}{o:Obj}(h:w.heap[i]?=Q o):i<J (U w):=by
 rcases OR i (J (U w)) with b|b;{exact b};{rw[PL b] at h;cases h}
def KX.k{B:Nat}{ZL:Nat->Prop}{b:E}(h:KX B X w w')(k:KX B ZL w' b)(g:∀i,i<J (U w)->ZL i->X i):KX B X w b:=
 ⟨h.aa.k k.aa,λi j t fz hi h1 h2 f hX=>by
  have e:=h.ad i j t fz hi h1 h2 f hX;rw[<-e]
  exact k.ad i j t fz (e.k hi) h1 h2 f λl=>hX (g i (ah hi) l)⟩
def KX.to{B:Nat}{b:E}(h:KX B X w w')(k:KX B XN w' b):KX B X w b:=h.k k λ_ _ h=>h.elim
def KX.weak{B:Nat}(h:KX B XN w w'):KX B X w w':=⟨h.aa,λi f t fz hi h1 h2 b _=>h.ad i f t fz hi h1 h2 b λh=>h.elim⟩
def KX.l{B:Nat}(h:Below C w w')(b:J (U w)<=C)(f:B<=J (U w)):KX B X w w':=
 ⟨h.P (nX f b),λi _ _ _ hi _ _ _ _=>h.p i (lj (ah hi) b)⟩
def KX.of_only{B:Nat}(h:zt b w w')(hX:X b)(f:B<=J (U w))(hb:B<=b):KX B X w w':=
 ⟨h.aa hb f,λi _ _ _ hi _ _ _ g=>h.p i (ah hi) λe=>g (e ▸ hX)⟩
def KX.of_grown{B:Nat}{row:Option Nat}(h:w.grownBy w' row)(l:B<=J (U w))(g:∀j,row=Q j->B<=j/\(X j\/∀f t fz,w.heap[j]?=Q (N f t fz)->t=9\/t=131\/t=180)):KX B X w w':=by
 refine⟨⟨h.os,h.tape,h.output,h.size,λk n=>h.p k (lj n l) λe=>?_⟩,λi f t fz hi h1 h2 m hX=>h.p i (ah hi) λe=>?_⟩;{have:=(g k e.c).1;omega};{rcases(g i e.c).2 with b|b;{exact hX b};{rcases b f t fz hi with e|e|e;{exact h1 e};{exact h2 e};{exact m e}}}
def aw{f:Array ZB}(h:w.heap[b]?=Q (N f t (0,0)))(v:ZB):(ZU w (T b j Z) v).heap[b]?=Q (N (f.setIfInBounds j v) t (0,0)):=by simp only[World.setCell,NQ,eT,h,U7];rfl
def KX.setCell{B:Nat}(w:E)(hb:B<=b)(f:X b\/∀g t fz,w.heap[b]?=Q (N g t fz)->t=9\/t=131\/t=180)(v:ZB):KX B X w (ZU w (T b j Z) v):=by
 refine⟨(a8 B w).setCell hb v,λi g t fz hi h1 h2 h hX=>?_⟩;refine qh _ _ _ _ λe=>?_;simp at e;subst e;rcases f with f|f;{exact hX f};{rcases f g t fz hi with e|e|e;{exact h1 e};{exact h2 e};{exact h e}}
def MkBox (w:E)(mb:Nat)(s0 s1:ZB)(mp:Nat)(mk md:ZB):Prop:=w.heap[mb]?=Q (N #[s0,s1,.map (Q mp),mk,md] 180 (0,0))
def MkBox.y{s0 s1:ZB}(h:MkBox w mb s0 s1 mp mk md):mb<J (U w)/\w.cell? (T mb 0 Z)=Q s0/\w.cell? (T mb 1 Z)=Q s1/\w.cell? (T mb 2 Z)=Q (.map (Q mp))/\w.cell? (T mb 3 Z)=Q mk/\w.cell? (T mb 4 Z)=Q md/\∀j,w.frozen? (T mb j Z)=false:=by unfold MkBox at h;refine⟨ah h,?_,?_,?_,?_,?_,λj=>?_⟩;all_goals simp[World.cell?,World.frozen?,h]
def MkBox.set3{s0 s1:ZB}(h:MkBox w mb s0 s1 mp mk md)(v:ZB):MkBox (ZU w (T mb 3 Z) v) mb s0 s1 mp v md:=aw h v
def MkBox.set4{s0 s1:ZB}(h:MkBox w mb s0 s1 mp mk md)(v:ZB):MkBox (ZU w (T mb 4 Z) v) mb s0 s1 mp mk v:=aw h v
def MkBox.ad{s0 s1:ZB}(h:MkBox w mb s0 s1 mp mk md)(hb:w'.heap[mb]?=w.heap[mb]?):MkBox w' mb s0 s1 mp mk md:=hb.k h
def bO (L:List F_):List ZB:=L.map .string
def jW (G:F_->Nat)(q_:List k_):List ZB:=q_.map λx=>.pointer (Q (T (G x.e) 0 Z))
def mD (G:F_->Nat)(l:Lk):List ZB:=[.string l.e,.bool l.ask,.bool l.has,.int I 0,.pointer (if l.ask=ZH then Q (T (G l.e) 0 Z) else Z)]
def fE (G:F_->Nat)(b:List Lk):List ZB:=b.flatMap (mD G)
def CB (G:F_->Nat)(b:List Lk)(l:Lk):fE G (b++[l])=fE G b++mD G l:=by simp[fE]
def oX{G f:F_->Nat}{b:List Lk}(h:∀l∈b,l.ask=ZH->f l.e=G l.e):fE f b=fE G b:=by
 induction b with
 |nil=>rfl
 |cons l b i =>
  have e:mD f l=mD G l:=by
   unfold mD;cases ha:l.ask with
   |false=>rfl
   |true=>rw[h l R8 ha]
  have:=i λl g=>h l (mq _ g);simp only[fE,NZ] at this ⊢;rw[e,this]
def dK (G:F_->Nat)(b:List F_)(q_:List k_)(s:List UInt8):Option ZB:=
 match q_.find? (λe=>e.e.toList == s) with
 |some e=>Q (.agg #[.int I 0,.pointer (Q (T (G e.e) 0 Z))])
 |none=>(b.findIdx? λx=>x.toList == s).map λ(i:Nat)=>.agg #[.int I (i:Int),.pointer Z]
def EntBlk (w:E)(b:Nat)(nm:F_)(kind code:Int)(text:F_)(act f:ZB)(zd:Int):Prop:=
 w.heap[b]?=Q (N #[.string nm,.int I kind,.int I code,.string text,act,Y Z 0 0,f,.int I zd] 134 (0,0))
def oF (w0:E)(S:xl)(kind:Int)(tg:Nat)(act:ZB):Prop:=
 if kind=3 then tg<S.n1/\∃a j_,act=Y a (S.f1 tg).h j_/\SlIns w0 a (S.f1 tg).h (S.f1 tg).q else act=Y Z 0 0
structure EntAt (w0:E)(S:xl)(G:F_->Nat)(w:E)(b:Nat)(v:ZB)(x:k_):Prop where
 ad:∃act,EntBlk w b x.e x.L x.M x.H act v 0/\oF w0 S x.L x.tg act
 ge:J (U w0)<=b
 row:A w (J (U w0)) 184 5 v x.D.length (fE G x.D)
def b9{v:ZB}{i:List ZB}(h:A w b e size v n i)(hb:∀k,v.ownBlock=Q k->w'.heap[k]?=w.heap[k]?):A w' b e size v n i:=by
 obtain⟨h1,h2|⟨g,j_,f,rfl,j,l,m⟩⟩:=h;{exact⟨h1,.inl h2⟩};{exact⟨h1,.inr ⟨g,j_,f,rfl,j,(hb g rfl).k l,m⟩⟩}
def af{v:ZB}{m:List ZB}(h:A w b e size v n m):∀k,v.ownBlock=Q k->b<=k/\k<J (U w)/\∃o,w.heap[k]?=Q (N o e (0,0)):=by
 intro k j;obtain⟨h1,⟨rfl,_⟩|⟨g,j_,f,rfl,l,i,h5⟩⟩:=h;{cases j}
 ·cases j
  exact⟨l,ah i,f,i⟩
def EntAt.kx{w0:E}{S:xl}{G:F_->Nat}{v:ZB}{x:k_}{B:Nat}(h:EntAt w0 S G w b v x)(i:KX B X w w')(h1:¬ X b)(h2:∀k,v.ownBlock=Q k->¬ X k):EntAt w0 S G w' b v x:=by obtain⟨⟨act,hb,j⟩,l,g⟩:=h;refine⟨⟨act,(i.ad b _ _ _ hb (by decide) (by decide) (by decide) h1).k hb,j⟩,l,b9 g λk f=>?_⟩;obtain⟨_,_,cs,m⟩:=af g k f;exact i.ad k _ _ _ m (by decide) (by decide) (by decide) (h2 k f)
structure MIg (w0:E)(S:xl)(mb mp:Nat)(s0 s1:ZB)(w:E)(yh:Nat)(F:List UInt8->Option ZB)(nk:Nat)(ks:List ZB)(np:Nat)(ps:List ZB)(q_:List k_)(G:F_->Nat)(V:F_->ZB)(mk md:ZB):Prop where
 ak:Below (J (U w0)) w0 w
 mbB:J (U w0)<=mb
 mpB:J (U w0)<=mp
 ab:MkBox w mb s0 s1 mp mk md
 rmk:A w (J (U w0)) 9 1 mk nk ks
 X:A w (J (U w0)) 131 1 md np ps
 map:MapN w mp yh F
 W:∀x∈q_,EntAt w0 S G w (G x.e) (V x.e) x
 dist:q_.Pairwise λx y=>G x.e≠G y.e
abbrev MI (w0:E)(S:xl)(mb mp:Nat)(s0 s1:ZB)(w:E)(f b:List F_)(q_:List k_)(G:F_->Nat)(V:F_->ZB)(mk md:ZB):Prop:=
 MIg w0 S mb mp s0 s1 w (2*q_.length+f.length) (dK G f q_) b.length (bO b) q_.length (jW G q_) q_ G V mk md
section
variable {w0 w w':E}{S:xl}{mb mp:Nat}{s0 s1 mk md:ZB}{yh nk np:Nat}{F:List UInt8->Option ZB}{ks ps:List ZB}{q_:List k_}{G:F_->Nat}{V:F_->ZB}
def MIg.lt (h:MIg w0 S mb mp s0 s1 w yh F nk ks np ps q_ G V mk md):J (U w0)<=J (U w):=h.ak.size
def MIg.aa (h:MIg w0 S mb mp s0 s1 w yh F nk ks np ps q_ G V mk md)(hb:Below C w w')(b:J (U w)<=C):MIg w0 S mb mp s0 s1 w' yh F nk ks np ps q_ G V mk md:=
 have g:KX (J (U w0)) XN w w':=KX.l hb b h.lt;have f:∀i o,w.heap[i]?=Q o->w'.heap[i]?=w.heap[i]?:=λi o hi=>hb.p i (lj (ah hi) b)
 ⟨h.ak.k g.aa,h.mbB,h.mpB,h.ab.ad (f _ _ h.ab),J_ h.rmk hb b,J_ h.X hb b,h.map.ad (by obtain⟨es,c,j⟩:=h.map.isMap;exact f _ _ j),λx l=>(h.W x l).kx g (λh=>h) (λ_ _ h=>h),h.dist⟩
def MIg.kx (h:MIg w0 S mb mp s0 s1 w yh F nk ks np ps q_ G V mk md)(l:KX (J (U w0)) X w w')(b:∀i o,w.heap[i]?=Q o->¬ X i->w'.heap[i]?=w.heap[i]?)(h1:¬ X mb)(h2:¬ X mp)(n:∀k,mk.ownBlock=Q k->¬ X k)(p:∀k,md.ownBlock=Q k->¬ X k)(m:∀x∈q_,¬ X (G x.e)/\∀k,(V x.e).ownBlock=Q k->¬ X k):MIg w0 S mb mp s0 s1 w' yh F nk ks np ps q_ G V mk md:=
 ⟨h.ak.k l.aa,h.mbB,h.mpB,h.ab.ad (b _ _ h.ab h1),b9 h.rmk (λk f=>by obtain⟨_,_,r,j⟩:=af h.rmk k f;exact b _ _ j (n k f)),b9 h.X (λk f=>by obtain⟨_,_,r,j⟩:=af h.X k f;exact b _ _ j (p k f)),h.map.ad (by obtain⟨es,c,q⟩:=h.map.isMap;exact b _ _ q h2),λx g=>(h.W x g).kx l (m x g).1 (m x g).2,h.dist⟩
def MIg.mapped{cnt':Nat}{F':List UInt8->Option ZB}(h:MIg w0 S mb mp s0 s1 w yh F nk ks np ps q_ G V mk md)(o:w.grownBy w' (Q mp))(r:MapN w' mp cnt' F'):MIg w0 S mb mp s0 s1 w' cnt' F' nk ks np ps q_ G V mk md/\KX (J (U w0)) XN w w':=by
 obtain⟨es,c,f⟩:=h.map.isMap;have n:KX (J (U w0)) XN w w':=KX.of_grown o h.lt λj p=>by
  cases p
  exact⟨h.mpB,.inr λl t fz b=>by rw[f] at b;cases b⟩
 have m:∀(i:Nat) (l:Array ZB) (t:ZK) (fz:Nat × Nat),w.heap[i]?=Q (Obj.cells l t fz)->w'.heap[i]?=w.heap[i]?:=λi l t fz hi=>o.p i (ah hi) λe=>by
  cases e
  rw[f] at hi;cases hi
 exact⟨⟨h.ak.k n.aa,h.mbB,h.mpB,h.ab.ad (m _ _ _ _ h.ab),b9 h.rmk (λk g=>by obtain⟨_,_,l,b⟩:=af h.rmk k g;exact m _ _ _ _ b),b9 h.X (λk g=>by obtain⟨_,_,l,b⟩:=af h.X k g;exact m _ _ _ _ b),r,λx q=>(h.W x q).kx n (λh=>h) (λ_ _ h=>h),h.dist⟩,n⟩
def aB{w:E}{v:ZB}{g:List ZB}(h:A w f e size v n g)(hb:v.ownBlock≠Q b)(j:Nat)(u:ZB):(ZU w (T b j Z) u).ownsRow f e size v n g:=
 b9 h λk i=>qh _ _ _ _ λe=>hb (by rw[i];exact xT Q e)
def ar{w:E}{m j:Array ZB}{i:ZK}{f l:Nat × Nat}(h:w.heap[b]?=Q (N m t f))(g:w.heap[b]?=Q (N j i l)):t=i:=by rw[h] at g;simp only[L8,Obj.cells.injEq] at g;exact g.2.1
def MIg.mked{nk':Nat}{ks':List ZB}{v:ZB}(h:MIg w0 S mb mp s0 s1 w yh F nk ks np ps q_ G V mk md)(y:w.grownBy w' mk.ownBlock)(u:A w' (J (U w0)) 9 1 v nk' ks'):MIg w0 S mb mp s0 s1 (ZU w' (T mb 3 Z) v) yh F nk' ks' np ps q_ G V v md/\KX (J (U w0)) XN w (ZU w' (T mb 3 Z) v):=by
 have r:=af h.rmk;have s:KX (J (U w0)) XN w w':=KX.of_grown y h.lt λj z=>by obtain⟨h1,_,b,h2⟩:=r j z;exact⟨h1,.inr λb t fz g=>.inl (ar g h2)⟩
 have m:∀(i:Nat) (o:Obj),w.heap[i]?=Q o->(∀b,o≠Obj.cells b 9 (0,0))->w'.heap[i]?=w.heap[i]?:=λi o hi C=>y.p i (ah hi) λe=>by
  obtain⟨_,_,b,h2⟩:=r i e.c;rw[hi] at h2;cases h2
  exact C b rfl
 have f:MkBox w' mb s0 s1 mp mk md:=h.ab.ad (m _ _ h.ab (λb e=>by cases e));have q:MapN w' mp yh F:=h.map.ad (by obtain⟨B,c,n⟩:=h.map.isMap;exact m _ _ n (λb e=>by cases e));have p:A w' (J (U w0)) 131 1 md np ps:=b9 h.X λk l=>by obtain⟨_,_,b,g⟩:=af h.X k l;exact m _ _ g λb e=>by cases e
 have l:KX (J (U w0)) XN w' (ZU w' (T mb 3 Z) v):=KX.setCell w' h.mbB (.inr λb t fz g=>.inr (.inr (ar g f))) v;refine⟨⟨h.ak.k (s.to l).aa,h.mbB,h.mpB,f.set3 v,aB u (λe=>?_) _ _,aB p (λe=>?_) _ _,q.ad (qh _ _ _ _ λe=>?_),λx ZV=>(h.W x ZV).kx (s.to l) (λh=>h) (λ_ _ h=>h),h.dist⟩,s.to l⟩;{obtain⟨_,_,b,g⟩:=af u mb e;exact absurd (ar g f) (by decide)};{obtain⟨_,_,b,g⟩:=af p mb e;exact absurd (ar g f) (by decide)};{obtain⟨B,c,n⟩:=q.isMap;simp at e;rw[e,f] at n;cases n}
def MIg.mded{np':Nat}{ps':List ZB}{v:ZB}(h:MIg w0 S mb mp s0 s1 w yh F nk ks np ps q_ G V mk md)(y:w.grownBy w' md.ownBlock)(u:A w' (J (U w0)) 131 1 v np' ps'):MIg w0 S mb mp s0 s1 (ZU w' (T mb 4 Z) v) yh F nk ks np' ps' q_ G V mk v/\KX (J (U w0)) XN w (ZU w' (T mb 4 Z) v):=by
 have r:=af h.X;have s:KX (J (U w0)) XN w w':=KX.of_grown y h.lt λj z=>by obtain⟨h1,_,b,h2⟩:=r j z;exact⟨h1,.inr λb t fz g=>.inr (.inl (ar g h2))⟩
 have m:∀(i:Nat) (o:Obj),w.heap[i]?=Q o->(∀b,o≠Obj.cells b 131 (0,0))->w'.heap[i]?=w.heap[i]?:=λi o hi C=>y.p i (ah hi) λe=>by
  obtain⟨_,_,b,h2⟩:=r i e.c;rw[hi] at h2;cases h2
  exact C b rfl
 have f:MkBox w' mb s0 s1 mp mk md:=h.ab.ad (m _ _ h.ab (λb e=>by cases e));have q:MapN w' mp yh F:=h.map.ad (by obtain⟨B,c,n⟩:=h.map.isMap;exact m _ _ n (λb e=>by cases e));have p:A w' (J (U w0)) 9 1 mk nk ks:=b9 h.rmk λk l=>by obtain⟨_,_,b,g⟩:=af h.rmk k l;exact m _ _ g λb e=>by cases e
 have l:KX (J (U w0)) XN w' (ZU w' (T mb 4 Z) v):=KX.setCell w' h.mbB (.inr λb t fz g=>.inr (.inr (ar g f))) v;refine⟨⟨h.ak.k (s.to l).aa,h.mbB,h.mpB,f.set4 v,aB p (λe=>?_) _ _,aB u (λe=>?_) _ _,q.ad (qh _ _ _ _ λe=>?_),λx ZV=>(h.W x ZV).kx (s.to l) (λh=>h) (λ_ _ h=>h),h.dist⟩,s.to l⟩;{obtain⟨_,_,b,g⟩:=af p mb e;exact absurd (ar g f) (by decide)};{obtain⟨_,_,b,g⟩:=af u mb e;exact absurd (ar g f) (by decide)};{obtain⟨B,c,n⟩:=q.isMap;simp at e;rw[e,f] at n;cases n}
end
structure EU (w0:E)(S:xl)(w:E)(eb:Nat)(nm:F_)(tg:Nat)(G:F_->Nat)(ls:List Lk)(v:ZB)(q_:List k_)(V:F_->ZB):Prop where
 ad:∃a j_,EntBlk w eb nm 3 0 ⟨#[]⟩ (Y a (S.f1 tg).h j_) v 0/\SlIns w0 a (S.f1 tg).h (S.f1 tg).q
 ge:J (U w0)<=eb
 row:A w (J (U w0)) 184 5 v ls.length (fE G ls)
 free:∀x∈q_,G x.e≠eb
 apart:∀x∈q_,∀k,v.ownBlock=Q k->(V x.e).ownBlock≠Q k
 asked:∀l∈ls,l.ask=ZH->∃x∈q_,x.e=l.e
