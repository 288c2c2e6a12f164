import Derived.Test.YtoddkejemcbkmaaGreatDoorQN
import Derived.Test.YtoddkejemcbkmaaGreatDoorQC
import Derived.Maps.OwnSet
import Derived.Maps.Views
import Derived.Maps.RangeWalk
import Derived.StringKeys
import Derived.DeepKeys4
set_option maxHeartbeats 2000000
open Go renaming Addr.mk->Q,Value.slice->Z,Value.string->U,Value.int->J,Value.bool->ZD,Obj.cells->N,IntKind.i64->I,World->M,Value->ZC,TypeId->ZH,Ending.returned->ZF,World.cell?->A,Proofs.Tryz.prog->Pg
open Option renaming none->Y,some->T
open Bool renaming false->ZA,true->ZG
namespace Go.Proofs.YtoddkejemcbkmaaGreatDoor.Vp
open Tryz RowKit
variable {b n B size i j C hb tg:Nat}{e:ZH}{X:Nat->Prop}{w:M}{t sx:ByteArray}{c:List ZC}{or:ZC}{g:Nat->ByteArray}
def XN:Nat->Prop:=λ_=>False
theorem ai{o:Obj}(h:w.heap[i]?=T o):i<w.heap.size:=by
 rcases N1 i w.heap.size with b|b;{exact b};{rw[OT b] at h;cases h}
theorem ay{c:Array ZC}{t:ZH}(h:w.heap[b]?=T (N c t (0,0)))(v:ZC):(w.setCell (Q b j Y) v).heap[b]?=T (N (c.setIfInBounds j v) t (0,0)):=by simp only[World.setCell,CV,p7,h,SV];rfl
def bZ (L:List ByteArray):List ZC:=L.map U
theorem du{w':M}{v:ZC}(h:w.ownsRow b e size v n c)(hb:∀k,v.ownBlock=T k->w'.heap[k]?=w.heap[k]?):w'.ownsRow b e size v n c:=by
 obtain⟨h1,h2|⟨g,cap,f,rfl,h3,h4,i⟩⟩:=h;{exact⟨h1,.inl h2⟩};{exact⟨h1,.inr ⟨g,cap,f,rfl,h3,(hb g rfl).trans h4,i⟩⟩}
theorem aj{v:ZC}{i:List ZC}(h:w.ownsRow b e size v n i):∀k,v.ownBlock=T k->b<=k/\k<w.heap.size/\∃j,w.heap[k]?=T (N j e (0,0)):=by
 intro k c;obtain⟨h1,⟨rfl,_⟩|⟨g,cap,f,rfl,h3,h4,h5⟩⟩:=h;{cases c}
 ·cases c
  exact⟨h3,ai h4,f,h4⟩
section
variable {w0 w w':M}{S:Spc}{mb mp:Nat}{s0 s1 mk md:ZC}{cnt nk np:Nat}{F:List UInt8->Option ZC}{ks ps:List ZC}{made:List Ent}{G:ByteArray->Nat}{V:ByteArray->ZC}
theorem aB{c:Nat}{v:ZC}{f:List ZC}(h:w.ownsRow c e size v n f)(hb:v.ownBlock≠T b)(j:Nat)(u:ZC):(w.setCell (Q b j Y) u).ownsRow c e size v n f :=
 du h λk g=>qh _ _ _ _ λe=>hb (by rw[g];exact AP T e)
theorem ar{l i:Array ZC}{t g:ZH}{f j:Nat × Nat}(h:w.heap[b]?=T (N l t f))(c:w.heap[b]?=T (N i g j)):t=g:=by rw[h] at c;simp only[MU,Obj.cells.injEq] at c;exact c.2.1
end
open Ca
theorem ii{v:ZC}(h:w.ownsRow b e size v n c):∃a cap,v=Z a n cap:=by
 obtain⟨_,⟨rfl,rfl⟩|⟨g,cap,cur,rfl,_⟩⟩:=h;{exact⟨Y,0,rfl⟩};{exact⟨_,_,rfl⟩}
structure KS (B:Nat)(X:Nat->Prop)(w w':M):Prop where
 aa:Below B w w'
 ab:∀i cs t fz,w.heap[i]?=T (N cs t fz)->t≠9->t≠179->t≠132->¬ X i->w'.heap[i]?=w.heap[i]?
theorem KS.trans{ZJ:Nat->Prop}{w' b:M}(h:KS B X w w')(k:KS B ZJ w' b)(c:∀i,i<w.heap.size->ZJ i->X i):KS B X w b :=
 ⟨h.aa.trans k.aa,λi f t fz hi h1 h2 h3 hX=>by
  have e:=h.ab i f t fz hi h1 h2 h3 hX;rw[<-e]
  exact k.ab i f t fz (e.trans hi) h1 h2 h3 λg=>hX (c i (ai hi) g)⟩
theorem KS.to{w' b:M}(h:KS B X w w')(k:KS B XN w' b):KS B X w b:=h.trans k λ_ _ h=>h.elim
theorem KS.u{w':M}(h:Below C w w')(b:w.heap.size<=C)(c:B<=w.heap.size):KS B X w w' :=
 ⟨h.mono (p9 c b),λi _ _ _ hi _ _ _ _=>h.block i (lj (ai hi) b)⟩
theorem KS.of_grown{row:Option Nat}{w':M}(h:w.grownBy w' row)(l:B<=w.heap.size)(f:∀j,row=T j->B<=j/\(X j∨∀c t fz,w.heap[j]?=T (N c t fz)->t=9∨t=179∨t=132)):KS B X w w':=by
 refine⟨⟨h.os,h.tape,h.output,h.size,λk g=>h.block k (lj g l) λe=>?_⟩,λi c t fz hi h1 h2 h3 hX=>h.block i (ai hi) λe=>?_⟩;{have:=(f k e.symm).1;omega};{rcases(f i e.symm).2 with b|b;{exact hX b};{rcases b c t fz hi with e|e|e;{exact h1 e};{exact h2 e};{exact h3 e}}}
theorem KS.setCell (w:M)(hb:B<=b)(c:X b∨∀f t fz,w.heap[b]?=T (N f t fz)->t=9∨t=179∨t=132)(v:ZC):KS B X w (w.setCell (Q b j Y) v):=by
 refine⟨(eL B w).setCell hb v,λi f t fz hi h1 h2 h3 hX=>?_⟩;refine qh _ _ _ _ λe=>?_;simp at e;subst e;rcases c with c|c;{exact hX c};{rcases c f t fz hi with e|e|e;{exact h1 e};{exact h2 e};{exact h3 e}}
def ShBox (w:M)(hb:Nat)(s0 s1 md or st:ZC)(c:Int)(sx:ByteArray)(f:ZC)(b:Bool):Prop:=w.heap[hb]?=T (N #[s0,s1,md,or,st,J I c,U sx,f,ZD b] 132 (0,0))
theorem ShBox.D{s0 s1 md st f:ZC}{c:Int}{b:Bool}(h:ShBox w hb s0 s1 md or st c sx f b):hb<w.heap.size/\A w (Q hb 0 Y)=T s0/\A w (Q hb 1 Y)=T s1/\A w (Q hb 2 Y)=T md/\A w (Q hb 3 Y)=T or/\A w (Q hb 4 Y)=T st/\A w (Q hb 5 Y)=T (J I c)/\A w (Q hb 6 Y)=T (U sx)/\A w (Q hb 7 Y)=T f/\A w (Q hb 8 Y)=T (ZD b)/\∀j,w.frozen? (Q hb j Y)=ZA:=by unfold ShBox at h;refine⟨ai h,?_,?_,?_,?_,?_,?_,?_,?_,?_,λj=>?_⟩;all_goals simp[World.cell?,World.frozen?,h]
theorem ShBox.ab{w':M}{s0 s1 md st c:ZC}{f:Int}{b:Bool}(h:ShBox w hb s0 s1 md or st f sx c b)(g:w'.heap[hb]?=w.heap[hb]?):ShBox w' hb s0 s1 md or st f sx c b:=g.trans h
structure SM where
 e:ByteArray
 B:Int
 h:ByteArray
 c:List Lk
 sv:ZC
 done:Bool
def smV (m:SM):List ZC:=[U m.e,J I m.B,U m.h,Z Y 0 0,m.sv,ZD m.done]
def eC (b:List Lk):List ZC:=b.flatMap λl=>[U l.e,ZD l.ask,ZD l.has]
def fI (L:List SM)(t:ByteArray):Option Nat:=L.findIdx? λm=>m.e.toList == t.toList
structure fB (L:List SM)(making:List ByteArray)(made:List Ent):Prop where
 nod:L.Pairwise λm m'=>m.e≠m'.e
 len:L.length=made.length+making.length
 got:∀x∈made,∃m∈L,m.e=x.e/\m.done=ZG/\m.B=(dP x).B/\m.h=(dP x).h/\m.c=x.looks
 mkg:∀t∈making,∃m∈L,m.e=t/\m.done=ZA
 all:∀m∈L,(∃x∈made,x.e=m.e)∨m.e∈making
structure SI (w0:M)(hb:Nat)(s0 s1:ZC)(w:M)(making:List ByteArray)(made:List Ent)(L:List SM)(md or st:ZC):Prop where
 ao:Below w0.heap.size w0 w
 hbB:w0.heap.size<=hb
 H:ShBox w hb s0 s1 md or st 0 ⟨#[]⟩ (Z Y 0 0) ZA
 W:w.ownsRow w0.heap.size 179 6 md L.length (L.flatMap smV)
 ror:w.ownsRow w0.heap.size 9 1 or made.length (bZ (made.map (·.e)))
 rst:w.ownsRow w0.heap.size 9 1 st making.length (bZ making)
 apart:∀k,or.ownBlock=T k->st.ownBlock≠T k
 c:∀m∈L,m.done=ZG->w.ownsRow w0.heap.size 181 3 m.sv m.c.length (eC m.c)
section
variable {w0 w w':M}{hb:Nat}{s0 s1 md or st:ZC}{making:List ByteArray}{made:List Ent}{L:List SM}
theorem SI.lt (h:SI w0 hb s0 s1 w making made L md or st):w0.heap.size<=w.heap.size:=h.ao.size
theorem SI.aa (h:SI w0 hb s0 s1 w making made L md or st)(b:Below C w w')(c:w.heap.size<=C):SI w0 hb s0 s1 w' making made L md or st :=
 ⟨h.ao.trans (b.mono (p9 h.lt c)),h.hbB,h.H.ab (b.block _ (lj (ai h.H) c)),own_below h.W b c,own_below h.ror b c,own_below h.rst b c,h.apart,λm f g=>own_below (h.c m f g) b c⟩
end
def ej:Option Nat->Int
 |some i=>(i:Int)
 |none=>-1
theorem iZ (g:Nat->ByteArray)(n:Nat)(t:ByteArray):cH g n t=(atI g n t).isSome:=by unfold cH atI;rw[QE,List.find?_isSome,List.any_eq_true]
theorem uL (h:cH g n t=ZA):atI g n t=Y:=by rw[iZ] at h;exact Option.isNone_iff_eq_none.1 (by simpa using h)
theorem sd{k:Nat}(b:k<n)(h1:((g k).toList == t.toList)=ZG)(h2:cH g k t=ZA):atI g n t=T k:=by
 unfold atI;rw[List.find?_range_eq_some];refine⟨h1,NH.2 b,λj c=>?_⟩;cases e:((g j).toList == t.toList) with
 |false=>rfl
 |true =>rw[mE c e] at h2;cases h2
theorem qQ (b off n0 c0:Nat)(a1:Option Addr)(n1 c1:Nat)(f:Nat->Source)(t:ByteArray)(w:M)(hn:(n0:Int)<=1048576)(n:RowSource w b off n0 f):Calls Pg 119 #[.agg #[Z (T (Q b off Y)) n0 c0,Z a1 n1 c1],U t] w λe w'=>e=ZF (J I (ej (atI (nm0 f) n0 t)))/\Below w.heap.size w w':=by
 obtain⟨W,c⟩:∃W:M,w.alloc (N #[Z (T (Q b off Y)) n0 c0,Z a1 n1 c1] 44)=W:=⟨_,rfl⟩
 obtain⟨l,-,-⟩:=nb1 c;have g:=ae c;clear c;have p:=ae (n.aa l ly);have k1:A W (Q w.heap.size 0 Y)=T (Z (T (Q b off Y)) n0 c0):=by rw[<-g.out];simp
 clear n;obtain⟨R,hR⟩:∃R,R=ej (atI (nm0 f) n0 t):=⟨_,rfl⟩
 rw[<-hR];have o:=ae hR;clear hR;go_enter func119,VF;go_wp2;rw[g.out];clear g;go_loop [5] (λi=>∃k:Nat,k<=n0/\i=J I k/\Hid (cH (nm0 f) k t=ZA)) (λi=>n0 - (intOf i).toNat);case atStart=>exact⟨0,by omega,rfl,rfl⟩
 case round =>
  obtain⟨k,hk,rfl,m⟩:=hrel;by_cases h:k<n0
  ·obtain⟨d0,d1⟩:=p.2 k h;cases hb:((f k).e.toList == t.toList) with
   |true =>have j:=ae hb;go_wp2;go_ret;exact⟨by rw[o.out,sd h j.out m.out];rfl,l⟩
   |false =>have j:=ae hb;go_wp2;exact⟨⟨k+1,by omega,by go_num,by show cH (nm0 f) (k+1) t=ZA;rw[jX,m.out];exact j⟩,by simp[intOf];omega⟩
  ·have e:k=n0:=by omega
   subst e;go_wp2;go_ret;exact⟨by rw[o.out,uL m.out];rfl,l⟩
theorem qR (a0:Option Addr)(c0:Nat)(a1:Option Addr)(n1 c1:Nat)(t:ByteArray)(w:M):Calls Pg 119 #[.agg #[Z a0 0 c0,Z a1 n1 c1],U t] w λe w'=>e=ZF (J I (-1))/\Below w.heap.size w w':=by
 have b:=ae ((q9 w).alloc ly (N #[Z a0 0 c0,Z a1 n1 c1] 44));go_enter func119,VF;go_wp2;go_loop [5] (λi=>i=J I 0) (λ_=>0);case atStart=>rfl
 case round =>subst hrel;go_wp2;go_ret;exact⟨rfl,b⟩
theorem iP (a0:Option Addr)(n0 c0:Nat)(a1:Option Addr)(n1 c1:Nat)(f:Nat->Source)(t:ByteArray)(w:M)(hn:(n0:Int)<=1048576)(g:SlSource w a0 n0 f):Calls Pg 119 #[.agg #[Z a0 n0 c0,Z a1 n1 c1],U t] w λe w'=>e=ZF (J I (ej (atI (nm0 f) n0 t)))/\Below w.heap.size w w':=by
 rcases g with rfl|⟨b,off,rfl,c⟩
 {exact qR a0 c0 a1 n1 c1 t w};{exact qQ b off n0 c0 a1 n1 c1 f t w hn c}
theorem qS (a0:Option Addr)(n0 c0 b off n1 c1:Nat)(f:Nat->Target)(t:ByteArray)(w:M)(hn:(n1:Int)<=1048576)(n:RowTarget w b off n1 f):Calls Pg 114 #[.agg #[Z a0 n0 c0,Z (T (Q b off Y)) n1 c1],U t] w λe w'=>e=ZF (J I (ej (atI (nm1 f) n1 t)))/\Below w.heap.size w w':=by
 obtain⟨W,c⟩:∃W:M,w.alloc (N #[Z a0 n0 c0,Z (T (Q b off Y)) n1 c1] 44)=W:=⟨_,rfl⟩
 obtain⟨l,-,-⟩:=nb1 c;have g:=ae c;clear c;have p:=ae (n.aa l ly);have k1:A W (Q w.heap.size 1 Y)=T (Z (T (Q b off Y)) n1 c1):=by rw[<-g.out];simp
 clear n;obtain⟨R,hR⟩:∃R,R=ej (atI (nm1 f) n1 t):=⟨_,rfl⟩
 rw[<-hR];have o:=ae hR;clear hR;go_enter func114,VB;go_wp2;rw[g.out];clear g;go_loop [5] (λi=>∃k:Nat,k<=n1/\i=J I k/\Hid (cH (nm1 f) k t=ZA)) (λi=>n1 - (intOf i).toNat);case atStart=>exact⟨0,by omega,rfl,rfl⟩
 case round =>
  obtain⟨k,hk,rfl,m⟩:=hrel;by_cases h:k<n1
  ·obtain⟨d0,ka,kc,d1,_⟩:=p.2 k h;cases hb:((f k).e.toList == t.toList) with
   |true =>have j:=ae hb;go_wp2;go_ret;exact⟨by rw[o.out,sd h j.out m.out];rfl,l⟩
   |false =>have j:=ae hb;go_wp2;exact⟨⟨k+1,by omega,by go_num,by show cH (nm1 f) (k+1) t=ZA;rw[jX,m.out];exact j⟩,by simp[intOf];omega⟩
  ·have e:k=n1:=by omega
   subst e;go_wp2;go_ret;exact⟨by rw[o.out,uL m.out];rfl,l⟩
theorem qT (a0:Option Addr)(n0 c0:Nat)(a1:Option Addr)(c1:Nat)(t:ByteArray)(w:M):Calls Pg 114 #[.agg #[Z a0 n0 c0,Z a1 0 c1],U t] w λe w'=>e=ZF (J I (-1))/\Below w.heap.size w w':=by
 have b:=ae ((q9 w).alloc ly (N #[Z a0 n0 c0,Z a1 0 c1] 44));go_enter func114,VB;go_wp2;go_loop [5] (λi=>i=J I 0) (λ_=>0);case atStart=>rfl
 case round =>subst hrel;go_wp2;go_ret;exact⟨rfl,b⟩
theorem iQ (a0:Option Addr)(n0 c0:Nat)(a1:Option Addr)(n1 c1:Nat)(f:Nat->Target)(t:ByteArray)(w:M)(hn:(n1:Int)<=1048576)(g:SlTarget w a1 n1 f):Calls Pg 114 #[.agg #[Z a0 n0 c0,Z a1 n1 c1],U t] w λe w'=>e=ZF (J I (ej (atI (nm1 f) n1 t)))/\Below w.heap.size w w':=by
 rcases g with rfl|⟨b,off,rfl,c⟩
 {exact qT a0 n0 c0 a1 c1 t w};{exact qS a0 n0 c0 b off n1 c1 f t w hn c}
theorem nI (m:SM):(smV m).length=6:=rfl
theorem cC{g cap:Nat}{L:List SM}(h:w.ownsRow b 179 6 (Z (T (Q g 0 Y)) L.length cap) L.length (L.flatMap smV)){m:SM}(f:L[i]?=T m)(j:Nat)(c:j<6){u:ZC}(l:(smV m)[j]?=T u):A w (Q g (i*6+j) Y)=T u:=by have h1:=h.cells (g:=g) rfl (i*6+j) u (by rw[dr smV 6 nI L i j c m f];exact l);rw[addr_add,F6] at h1;exact h1
theorem uM{L:List SM}{k:Nat}{m:SM}(b:L[k]?=T m)(h1:(m.e.toList == t.toList)=ZG)(h2:∀(j:Nat) (m:SM),j<k->L[j]?=T m->(m.e.toList == t.toList)=ZA):fI L t=T k:=by have c:=(p6.1 b).1;have g:=(p6.1 b).2;unfold fI;rw[QC];refine⟨c,by rw[g];exact h1,λj f=>?_⟩;rw[Bool.not_eq_true];exact h2 j _ f (gq (by omega))
theorem xK{L:List SM}(h2:∀(j:Nat) (m:SM),j<L.length->L[j]?=T m->(m.e.toList == t.toList)=ZA):fI L t=Y:=by unfold fI;rw[QD];intro m c;obtain⟨j,b⟩:=PT c;exact h2 j m (p6.1 b).1 b
section
variable {w0:M}{hb:Nat}{s0 s1 md or st:ZC}{making:List ByteArray}{made:List Ent}{L:List SM}
theorem uN (w:M)(t:ByteArray)(u:Nat)(c2:A w (Q hb 2 Y)=T md)(b:w.ownsRow u 179 6 md L.length (L.flatMap smV))(hL:L.length<=100000):Calls Pg 117 #[.pointer (T (Q hb 0 Y)),U t] w λe w'=>e=ZF (J I (ej (fI L t)))/\w'=w:=by
 obtain⟨R,hR⟩:∃R,R=ej (fI L t):=⟨_,rfl⟩
 rw[<-hR];have z:=ae hR;have o:=ae b;obtain⟨a,c,rfl⟩:∃a c,md=Z a L.length c:=by
  obtain⟨_,⟨rfl,e⟩|⟨g,cap,y,rfl,_⟩⟩:=b;{exact⟨Y,0,by rw[e]⟩};{exact⟨_,_,rfl⟩}
 obtain⟨n,hn⟩:∃n,n=L.length:=⟨_,rfl⟩
 have p:=ae hn;rw[<-hn] at c2 hL;clear b hR hn;go_enter func117,ntmps117;go_wp2;go_loop [5] (λi=>∃k:Nat,k<=n/\i=J I k/\Hid (∀(j:Nat) (m:SM),j<k->L[j]?=T m->(m.e.toList == t.toList)=ZA)) (λi=>n - (intOf i).toNat);case atStart=>exact⟨0,by omega,rfl,λj m s=>absurd s (NV _)⟩
 case round =>
  obtain⟨k,hk,rfl,r⟩:=hrel;by_cases hlt:k<n
  ·obtain⟨m,l⟩:∃m,L[k]?=T m:=⟨_,gq (by have:=p.out;omega)⟩
   obtain⟨g,cap,y,e,-⟩:=o.2.resolve_left (λh=>by have:=p.out;omega);simp only[ML,QR] at e;obtain⟨rfl,rfl⟩:=e;have d0:A w (Q g (k*6) Y)=T (U m.e):=cC o l 0 (by omega) rfl;have x:=ae l;have hI:(k:Int)<(n:Int):=by omega
   clear l;cases hb2:(m.e.toList == t.toList) with
   |true =>have q:=ae hb2;go_wp2;go_ret;exact⟨by rw[z.out,uM x.out q.out r.out];rfl,rfl⟩
   |false =>
    have q:=ae hb2;go_wp2;refine⟨⟨k+1,by omega,by go_num,λj ZR s f=>?_⟩,by simp[intOf];omega⟩;by_cases e:j=k;{subst e;rw[x.out] at f;cases f;exact q};{exact r j ZR (by omega) f}
  ·have e:k=n:=by omega
   subst e;go_wp2;go_ret;exact⟨by rw[z.out,xK (λj m s l=>r.out j m (by have:=p.out;omega) l)];rfl,rfl⟩
theorem o6 (w:M)(t:ByteArray)(h:SI w0 hb s0 s1 w making made L md or st)(hL:L.length<=100000):Calls Pg 117 #[.pointer (T (Q hb 0 Y)),U t] w λe w'=>e=ZF (J I (ej (fI L t)))/\w'=w:=by obtain⟨-,-,-,c2,-⟩:=h.H.D;exact uN w t w0.heap.size c2 h.W hL
end
structure o7 (w0:M)(S:Spc)(a0:Option Addr)(a1:Option Addr):Prop where
 src:SlSource w0 a0 S.n0 S.f0
 K:SlTarget w0 a1 S.n1 S.f1
 ok:SpcOk S
def i8 (w0:M)(hb:Nat)(w':M)(r:kM)(b:ZC):Prop:=∃s0 s1 md or st,ShBox w' hb s0 s1 md or st r.B r.h b ZG/\w'.ownsRow w0.heap.size 9 1 b r.j.length (bZ r.j)
structure LExt (n:Nat)(L L':List SM):Prop where
 nam:∀(i:Nat) (m:SM),L[i]?=T m->∃m':SM,L'[i]?=T m'/\m'.e=m.e
 sn:∀m∈L',m.done=ZG->(∃m0∈L,m0.done=ZG/\m0.sv=m.sv)∨∀k,m.sv.ownBlock=T k->n<=k
theorem LExt.refl (n:Nat)(L:List SM):LExt n L L:=⟨λ_ m h=>⟨m,h,rfl⟩,λm b c=>.inl ⟨m,b,c,rfl⟩⟩
theorem LExt.trans{q:Nat}{L l b:List SM}(h:LExt n L l)(k:LExt q l b)(hn:n<=q):LExt n L b:=by
 refine⟨λi m j=>?_,λm j s=>?_⟩;{obtain⟨c,h1,g⟩:=h.nam i m j;obtain⟨r,h2,t⟩:=k.nam i c h1;exact⟨r,h2,t.trans g⟩};{rcases k.sn m j s with ⟨m0,u,o,e⟩|h1;{rcases h.sn m0 u o with ⟨c,h1,p,g⟩|h1;{exact .inl ⟨c,h1,p,g.trans e⟩};{exact .inr λk f=>h1 k (by rw[e];exact f)}};{exact .inr λk f=>p9 hn (h1 k f)}}
def jr (c:List ByteArray):kM:=⟨6,⟨#[]⟩,c⟩
def js (d:ByteArray):kM:=⟨7,d,[]⟩
def ji (r:kM)(b:ZC):ZC:=.agg #[J I r.B,U r.h,b]
def mf (w0:M)(hb:Nat)(s0 s1:ZC)(making:List ByteArray)(L:List SM)(w:M)(e:Ending)(w':M):Out Ent->Prop
 |.inl (made',x)=>∃b g h f,e=ZF (.agg #[J I (dP x).B,U (dP x).h,Z Y 0 0])/\SI w0 hb s0 s1 w' making made' b g h f/\fB b making made'/\LExt w.heap.size L b/\KS w0.heap.size XN w w'
 |.inr (.inl c)=>∃a k,e=ZF (ji (jr c) (Z a c.length k))/\i8 w0 hb w' (jr c) (Z a c.length k)/\KS w0.heap.size XN w w'
 |.inr (.inr d)=>e=ZF (ji (js d) (Z Y 0 0))/\i8 w0 hb w' (js d) (Z Y 0 0)/\KS w0.heap.size XN w w'
def eZ (S:Spc)(making:List ByteArray)(made:List Ent)(k:Nat):Prop:=made.length+201*ei S making made+k<=50000
def MT (S:Spc)(making:List ByteArray):Prop:=∀t∈making,(atI (nm1 S.f1) S.n1 t).isSome=ZG
def nf (w0:M)(S:Spc)(hb:Nat)(s0 s1:ZC)(n:Nat):Prop:=∀making made L md or st w nm,making.length+n=60->SI w0 hb s0 s1 w making made L md or st->fB L making made->PG S making made->eZ S making made 1->MT S making->aw nm=ZG ->
 Calls Pg 116 #[.pointer (T (Q hb 0 Y)),U nm] w λe w'=>mf w0 hb s0 s1 making L w e w' (bG S n making made nm)
theorem lp{z:ZC}{a:Nat}(h:(Pg.info? e).map (λi=>(i.zero,i.size,i.bytes))=T (T z,a,b)):∃i,Pg.info? e=T i/\i.zero=T z/\i.size=a/\i.bytes=b:=by
 cases hi:Pg.info? e with
 |none=>rw[hi] at h;cases h
 |some i =>rw[hi] at h;simp only[SV,MU,MG] at h;exact⟨i,rfl,h⟩
theorem o8:(Pg.info? 9).map (λi=>(i.zero,i.size,i.bytes))=T (T (U ⟨#[]⟩),1,16):=by kernel_rfl
theorem zn:(Pg.info? 232).map (λi=>(i.zero,i.size,i.bytes))=T (T (.agg #[ZD ZA,J I 0,U ⟨#[]⟩]),3,32):=by kernel_rfl
theorem EF:(Pg.info? 181).map (λi=>(i.zero,i.size,i.bytes))=T (T (.agg #[U ⟨#[]⟩,ZD ZA,ZD ZA]),3,24):=by kernel_rfl
theorem EI:(Pg.info? 179).map (λi=>(i.zero,i.size,i.bytes))=T (T (.agg #[U ⟨#[]⟩,J I 0,U ⟨#[]⟩,Z Y 0 0,Z Y 0 0,ZD ZA]),6,96):=by kernel_rfl
def mg (b:List aK):List ZC:=b.flatMap λr=>[ZD r.has,J I r.B,U r.h]
theorem EJ (b:List aK)(r:aK):mg (b++[r])=mg b++[ZD r.has,J I r.B,U r.h]:=by simp[mg]
theorem Bz (b:List Lk)(l:Lk):eC (b++[l])=eC b++[U l.e,ZD l.ask,ZD l.has]:=by simp[eC]
theorem GT{l g c:Nat}{b:List aK}(h:w.ownsRow l 232 3 (Z (T (Q g 0 Y)) b.length c) b.length (mg b)):RowReply w g 0 b.length (yL b):=by
 obtain⟨_,m,cs,hc⟩:=aj h g rfl;refine⟨m,λi hi=>?_⟩;have n:b[i]?=T (yL b i):=by simp[yL,gq hi]
 have f:∀j u,j<3->([Value.bool (yL b i).has,J I (yL b i).B,U (yL b i).h]:List ZC)[j]?=T u->A w (Q g (i*3+j) Y)=T u:=λj u o p=>by have h1:=h.cells (g:=g) rfl (i*3+j) u (by rw[mg,dr (λr:aK=>[ZD r.has,J I r.B,U r.h]) 3 (λ_=>rfl) b i j o _ n];exact p);rw[addr_add,F6] at h1;exact h1
 refine⟨?_,?_,?_⟩;{rw[F6];exact f 0 _ (by omega) rfl};{rw[F6];exact f 1 _ (by omega) rfl};{rw[F6];exact f 2 _ (by omega) rfl}
theorem nJ (w:M)(e:ZH)(size:Nat):(w.alloc (N #[] e)).ownsRow w.heap.size e size (Z (T (Q w.heap.size 0 Y)) 0 0) 0 [] :=
 ⟨by simp,.inr ⟨w.heap.size,0,#[],rfl,n8 _,n6 _ _,n8 _,E4 _,by simp,by simp⟩⟩
theorem BD{S:Spc}(f:SpcOk S)(c:tg<S.n1){b:List aK}(h:∀y∈b,de y=ZG)(hl:b.length<=200):sW (S.f1 tg).G (S.f1 tg).f (yL b) b.length=eS S tg b:=by
 unfold sW;have g:bT (yL b) b.length=ZG:=by
  have:∀k,bT (yL b) k=ZG:=λk=>by
   induction k with
   |zero=>rfl
   |succ k i=>rw[bT,i,FD h k];rfl
  exact this _
 rw[nD (by rw[f.G tg c];simp),nD (by omega),nD (by rw[g];simp)];rfl
theorem EK{S:Spc}(c:SpcOk S)(b:tg<S.n1):∀i,i<(S.f1 tg).f->((S.f1 tg).G i).s.size<=maxLen:=λi hi=>by
 have h1:=gL (bO (c.G tg b)).1 hi;simp only[aG,z8] at h1;obtain⟨i1,i2,i3,i4,i5⟩:=h1;have hmt2:aF ((S.f1 tg).G i).op<=2000:=by unfold aF;split<;>omega
 unfold maxLen;omega
section
variable {w0:M}{S:Spc}{a0 a1:Option Addr}{c0 c1 hb:Nat}{md or st:ZC}{making:List ByteArray}{made:List Ent}{L:List SM}
theorem o9 (C:o7 w0 S a0 a1)(w:M)(t:ByteArray)(f:Below w0.heap.size w0 w)(m:hb<w.heap.size)(j:A w (Q hb 0 Y)=T (Z a0 S.n0 c0))(l:A w (Q hb 1 Y)=T (Z a1 S.n1 c1)):Calls Pg 165 #[.pointer (T (Q hb 0 Y)),U t] w λe w'=>e=ZF (ZD (kL S t))/\Below w.heap.size w w':=by
 have r:=ae C;have n:=ae f;have hsm:=C.ok.av;obtain⟨R,hR⟩:∃R,R=kL S t:=⟨_,rfl⟩
 rw[<-hR];have o:Hid (R=((atI (nm0 S.f0) S.n0 t).isSome || (atI (nm1 S.f1) S.n1 t).isSome)):=by show _=_;rw[hR];unfold kL;rw[iZ,iZ]
 clear C f hR;go_enter func165,ntmps165;go_wp2_with fail;refine(iP a0 S.n0 c0 a1 S.n1 c1 S.f0 t w (by omega) (r.src.aa n ly)).mono ?_;rintro e s ⟨rfl,b⟩;have x:=(b.cell (p:=(Q hb 0 Y)) m).trans j;have y:=(b.cell (p:=(Q hb 1 Y)) m).trans l;have hl1:hb<s.heap.size:=lj m b.size;have g:=ae b;clear b j l;cases h0:atI (nm0 S.f0) S.n0 t with
 |some i =>
  have h:=ae h0;clear h0;have q:(0:Int)<=(i:Int):=by omega
  simp only[ej];go_wp2;go_ret;exact⟨by rw[o.out,h.out];rfl,g⟩
 |none =>
  have h:=ae h0;clear h0;simp only[ej];go_wp2_with fail;refine(iQ a0 S.n0 c0 a1 S.n1 c1 S.f1 t s (by omega) (r.K.aa (n.trans (g.mono n.size)) ly)).mono ?_;rintro e w2 ⟨rfl,b⟩;have u:=ae (g.trans (b.mono g.size));clear b x y;cases h1:atI (nm1 S.f1) S.n1 t with
  |some i =>
   have c:=ae h1;clear h1;have q:(0:Int)<=(i:Int):=by omega
   simp only[ej];go_wp2;go_ret;exact⟨by rw[o.out,h.out,c.out];simp,u⟩
  |none =>have c:=ae h1;clear h1;simp only[ej];go_wp2;go_ret;exact⟨by rw[o.out,h.out,c.out];rfl,u⟩
end
