import Derived.Test.YtpmnbjkjpnclaaaGreatDoorQP
import Derived.Test.YtpmnbjkjpnclaaaGreatDoorQE
import Derived.Maps.OwnSet
import Derived.Maps.Views
import Derived.Maps.RangeWalk
import Derived.StringKeys
import Derived.DeepKeys4
set_option maxHeartbeats 2000000
open Go renaming Addr.mk->Q,Value.slice->Z,Value.string->Y,Value.int->J,Value.bool->ZD,Obj.cells->N,IntKind.i64->I,World->M,Value->ZC,TypeId->ZH,Ending.returned->ZF,World.cell?->A,Proofs.Tryz.prog->Pg
open Option renaming none->U,some->T
open Bool renaming false->ZA,true->ZG
namespace Go.Proofs.YtpmnbjkjpnclaaaGreatDoor.Vp
open Tryz RowKit
variable {w w':M}{b n B size i j c C hb tg:Nat}{e:ZH}{X:Nat->Prop}{t sx:ByteArray}{f:List ZC}{s0 s1 md or:ZC}{g:Nat->ByteArray}{S:Spc}
def XN:Nat->Prop:=λ_=>False
theorem ai{o:Obj}(h:w.heap[i]?=T o):i<w.heap.size:=by
 rcases PJ i w.heap.size with b|b;{exact b};{rw[QD b] at h;cases h}
theorem ay{c:Array ZC}{t:ZH}(h:w.heap[b]?=T (N c t (0,0)))(v:ZC):(w.setCell (Q b j U) v).heap[b]?=T (N (c.setIfInBounds j v) t (0,0)):=by simp only[World.setCell,CP,p6,h,UR];rfl
def b9 (L:List ByteArray):List ZC:=L.map Y
theorem dv{v:ZC}(h:w.ownsRow b e size v n f)(hb:∀k,v.ownBlock=T k->w'.heap[k]?=w.heap[k]?):w'.ownsRow b e size v n f:=by
 obtain⟨h1,h2|⟨g,cap,c,rfl,h3,h4,i⟩⟩:=h;{exact⟨h1,.inl h2⟩};{exact⟨h1,.inr ⟨g,cap,c,rfl,h3,(hb g rfl).trans h4,i⟩⟩}
theorem aj{v:ZC}{i:List ZC}(h:w.ownsRow b e size v n i):∀k,v.ownBlock=T k->b<=k/\k<w.heap.size/\∃j,w.heap[k]?=T (N j e (0,0)):=by
 intro k f;obtain⟨h1,⟨rfl,_⟩|⟨g,cap,c,rfl,h3,h4,h5⟩⟩:=h;{cases f}
 ·cases f
  exact⟨h3,ai h4,c,h4⟩
section
variable {w0 w w':M}{S:Spc}{mb mp:Nat}{s0 s1 mk md:ZC}{cnt nk np:Nat}{F:List UInt8->Option ZC}{ks ps:List ZC}{made:List Ent}{G:ByteArray->Nat}{V:ByteArray->ZC}
theorem aA{w:M}{v:ZC}(h:w.ownsRow c e size v n f)(hb:v.ownBlock≠T b)(j:Nat)(u:ZC):(w.setCell (Q b j U) u).ownsRow c e size v n f :=
 dv h λk g=>qh _ _ _ _ λe=>hb (by rw[g];exact wA T e)
theorem ar{w:M}{j i:Array ZC}{t g:ZH}{f l:Nat × Nat}(h:w.heap[b]?=T (N j t f))(c:w.heap[b]?=T (N i g l)):t=g:=by rw[h] at c;simp only[OJ,Obj.cells.injEq] at c;exact c.2.1
end
open Ca
theorem iq{v:ZC}{c:List ZC}(h:w.ownsRow b e size v n c):∃a cap,v=Z a n cap:=by
 obtain⟨_,⟨rfl,rfl⟩|⟨g,cap,cur,rfl,_⟩⟩:=h;{exact⟨U,0,rfl⟩};{exact⟨_,_,rfl⟩}
structure KS (B:Nat)(X:Nat->Prop)(w w':M):Prop where
 aa:Below B w w'
 ab:∀i cs t fz,w.heap[i]?=T (N cs t fz)->t≠9->t≠198->t≠117->¬ X i->w'.heap[i]?=w.heap[i]?
theorem KS.trans{ZK:Nat->Prop}{b:M}(h:KS B X w w')(k:KS B ZK w' b)(c:∀i,i<w.heap.size->ZK i->X i):KS B X w b :=
 ⟨h.aa.trans k.aa,λi f t fz hi h1 h2 h3 hX=>by
  have e:=h.ab i f t fz hi h1 h2 h3 hX;rw[<-e]
  exact k.ab i f t fz (e.trans hi) h1 h2 h3 λg=>hX (c i (ai hi) g)⟩
theorem KS.to{b:M}(h:KS B X w w')(k:KS B XN w' b):KS B X w b:=h.trans k λ_ _ h=>h.elim
theorem KS.u (h:Below C w w')(b:w.heap.size<=C)(c:B<=w.heap.size):KS B X w w' :=
 ⟨h.mono (p7 c b),λi _ _ _ hi _ _ _ _=>h.block i (lj (ai hi) b)⟩
theorem KS.of_grown{row:Option Nat}(h:w.grownBy w' row)(l:B<=w.heap.size)(f:∀j,row=T j->B<=j/\(X j∨∀c t fz,w.heap[j]?=T (N c t fz)->t=9∨t=198∨t=117)):KS B X w w':=by
 refine⟨⟨h.os,h.tape,h.output,h.size,λk g=>h.block k (lj g l) λe=>?_⟩,λi c t fz hi h1 h2 h3 hX=>h.block i (ai hi) λe=>?_⟩;{have:=(f k e.symm).1;omega};{rcases(f i e.symm).2 with b|b;{exact hX b};{rcases b c t fz hi with e|e|e;{exact h1 e};{exact h2 e};{exact h3 e}}}
theorem KS.setCell (w:M)(hb:B<=b)(c:X b∨∀f t fz,w.heap[b]?=T (N f t fz)->t=9∨t=198∨t=117)(v:ZC):KS B X w (w.setCell (Q b j U) v):=by
 refine⟨(dB B w).setCell hb v,λi f t fz hi h1 h2 h3 hX=>?_⟩;refine qh _ _ _ _ λe=>?_;simp at e;subst e;rcases c with c|c;{exact hX c};{rcases c f t fz hi with e|e|e;{exact h1 e};{exact h2 e};{exact h3 e}}
def ShBox (w:M)(hb:Nat)(s0 s1 md or st:ZC)(f:Int)(sx:ByteArray)(c:ZC)(b:Bool):Prop:=w.heap[hb]?=T (N #[s0,s1,md,or,st,J I f,Y sx,c,ZD b] 117 (0,0))
theorem ShBox.K{st c:ZC}{f:Int}{b:Bool}(h:ShBox w hb s0 s1 md or st f sx c b):hb<w.heap.size/\A w (Q hb 0 U)=T s0/\A w (Q hb 1 U)=T s1/\A w (Q hb 2 U)=T md/\A w (Q hb 3 U)=T or/\A w (Q hb 4 U)=T st/\A w (Q hb 5 U)=T (J I f)/\A w (Q hb 6 U)=T (Y sx)/\A w (Q hb 7 U)=T c/\A w (Q hb 8 U)=T (ZD b)/\∀j,w.frozen? (Q hb j U)=ZA:=by unfold ShBox at h;refine⟨ai h,?_,?_,?_,?_,?_,?_,?_,?_,?_,λj=>?_⟩;all_goals simp[World.cell?,World.frozen?,h]
theorem ShBox.ab{st c:ZC}{g:Int}{b:Bool}(h:ShBox w hb s0 s1 md or st g sx c b)(f:w'.heap[hb]?=w.heap[hb]?):ShBox w' hb s0 s1 md or st g sx c b:=f.trans h
structure SM where
 e:ByteArray
 E:Int
 B:ByteArray
 c:List Lk
 sv:ZC
 done:Bool
def smV (m:SM):List ZC:=[Y m.e,J I m.E,Y m.B,Z U 0 0,m.sv,ZD m.done]
def eF (b:List Lk):List ZC:=b.flatMap λl=>[Y l.e,ZD l.ask,ZD l.has]
def fI (L:List SM)(t:ByteArray):Option Nat:=L.findIdx? λm=>m.e.toList == t.toList
structure fG (L:List SM)(making:List ByteArray)(made:List Ent):Prop where
 nod:L.Pairwise λm m'=>m.e≠m'.e
 len:L.length=made.length+making.length
 got:∀x∈made,∃m∈L,m.e=x.e/\m.done=ZG/\m.E=(dQ x).E/\m.B=(dQ x).B/\m.c=x.looks
 mkg:∀t∈making,∃m∈L,m.e=t/\m.done=ZA
 all:∀m∈L,(∃x∈made,x.e=m.e)∨m.e∈making
structure SI (w0:M)(hb:Nat)(s0 s1:ZC)(w:M)(making:List ByteArray)(made:List Ent)(L:List SM)(md or st:ZC):Prop where
 ao:Below w0.heap.size w0 w
 hbB:w0.heap.size<=hb
 G:ShBox w hb s0 s1 md or st 0 ⟨#[]⟩ (Z U 0 0) ZA
 W:w.ownsRow w0.heap.size 198 6 md L.length (L.flatMap smV)
 ror:w.ownsRow w0.heap.size 9 1 or made.length (b9 (made.map (·.e)))
 rst:w.ownsRow w0.heap.size 9 1 st making.length (b9 making)
 apart:∀k,or.ownBlock=T k->st.ownBlock≠T k
 c:∀m∈L,m.done=ZG->w.ownsRow w0.heap.size 201 3 m.sv m.c.length (eF m.c)
section
variable {w0 w w':M}{hb:Nat}{s0 s1 md or st:ZC}{making:List ByteArray}{made:List Ent}{L:List SM}
theorem SI.lt (h:SI w0 hb s0 s1 w making made L md or st):w0.heap.size<=w.heap.size:=h.ao.size
theorem SI.aa (h:SI w0 hb s0 s1 w making made L md or st)(b:Below C w w')(c:w.heap.size<=C):SI w0 hb s0 s1 w' making made L md or st :=
 ⟨h.ao.trans (b.mono (p7 h.lt c)),h.hbB,h.G.ab (b.block _ (lj (ai h.G) c)),own_below h.W b c,own_below h.ror b c,own_below h.rst b c,h.apart,λm g f=>own_below (h.c m g f) b c⟩
end
def ej:Option Nat->Int
 |some i=>(i:Int)
 |none=>-1
theorem jg (g:Nat->ByteArray)(n:Nat)(t:ByteArray):cI g n t=(atI g n t).isSome:=by unfold cI atI;rw[SJ,List.find?_isSome,List.any_eq_true]
theorem vF (h:cI g n t=ZA):atI g n t=U:=by rw[jg] at h;exact Option.isNone_iff_eq_none.1 (by simpa using h)
theorem sU{k:Nat}(c:k<n)(h1:((g k).toList == t.toList)=ZG)(h2:cI g k t=ZA):atI g n t=T k:=by
 unfold atI;rw[List.find?_range_eq_some];refine⟨h1,PE.2 c,λj b=>?_⟩;cases e:((g j).toList == t.toList) with
 |false=>rfl
 |true =>rw[mQ b e] at h2;cases h2
theorem rF (b off n0 c0:Nat)(a1:Option Addr)(n1 c1:Nat)(f:Nat->Source)(t:ByteArray)(w:M)(hn:(n0:Int)<=1048576)(n:RowSource w b off n0 f):Calls Pg 51 #[.agg #[Z (T (Q b off U)) n0 c0,Z a1 n1 c1],Y t] w λe w'=>e=ZF (J I (ej (atI (nm0 f) n0 t)))/\Below w.heap.size w w':=by
 obtain⟨W,c⟩:∃W:M,w.alloc (N #[Z (T (Q b off U)) n0 c0,Z a1 n1 c1] 27)=W:=⟨_,rfl⟩
 obtain⟨l,-,-⟩:=nb1 c;have g:=ae c;clear c;have p:=ae (n.aa l ly);have k1:A W (Q w.heap.size 0 U)=T (Z (T (Q b off U)) n0 c0):=by rw[<-g.out];simp
 clear n;obtain⟨R,hR⟩:∃R,R=ej (atI (nm0 f) n0 t):=⟨_,rfl⟩
 rw[<-hR];have o:=ae hR;clear hR;go_enter func51,ntmps51;go_wp2;rw[g.out];clear g;go_loop [5] (λi=>∃k:Nat,k<=n0/\i=J I k/\Hid (cI (nm0 f) k t=ZA)) (λi=>n0 - (intOf i).toNat);case atStart=>exact⟨0,by omega,rfl,rfl⟩
 case round =>
  obtain⟨k,hk,rfl,j⟩:=hrel;by_cases h:k<n0
  ·obtain⟨d0,d1⟩:=p.2 k h;cases hb:((f k).e.toList == t.toList) with
   |true =>have m:=ae hb;go_wp2;go_ret;exact⟨by rw[o.out,sU h m.out j.out];rfl,l⟩
   |false =>have m:=ae hb;go_wp2;exact⟨⟨k+1,by omega,by go_num,by show cI (nm0 f) (k+1) t=ZA;rw[ke,j.out];exact m⟩,by simp[intOf];omega⟩
  ·have e:k=n0:=by omega
   subst e;go_wp2;go_ret;exact⟨by rw[o.out,vF j.out];rfl,l⟩
theorem rG (a0:Option Addr)(c0:Nat)(a1:Option Addr)(n1 c1:Nat)(t:ByteArray)(w:M):Calls Pg 51 #[.agg #[Z a0 0 c0,Z a1 n1 c1],Y t] w λe w'=>e=ZF (J I (-1))/\Below w.heap.size w w':=by
 have b:=ae ((q9 w).alloc ly (N #[Z a0 0 c0,Z a1 n1 c1] 27));go_enter func51,ntmps51;go_wp2;go_loop [5] (λi=>i=J I 0) (λ_=>0);case atStart=>rfl
 case round =>subst hrel;go_wp2;go_ret;exact⟨rfl,b⟩
theorem iY (a0:Option Addr)(n0 c0:Nat)(a1:Option Addr)(n1 c1:Nat)(f:Nat->Source)(t:ByteArray)(w:M)(hn:(n0:Int)<=1048576)(g:SlSource w a0 n0 f):Calls Pg 51 #[.agg #[Z a0 n0 c0,Z a1 n1 c1],Y t] w λe w'=>e=ZF (J I (ej (atI (nm0 f) n0 t)))/\Below w.heap.size w w':=by
 rcases g with rfl|⟨b,off,rfl,c⟩
 {exact rG a0 c0 a1 n1 c1 t w};{exact rF b off n0 c0 a1 n1 c1 f t w hn c}
theorem rH (a0:Option Addr)(n0 c0 b off n1 c1:Nat)(f:Nat->Target)(t:ByteArray)(w:M)(hn:(n1:Int)<=1048576)(n:RowTarget w b off n1 f):Calls Pg 52 #[.agg #[Z a0 n0 c0,Z (T (Q b off U)) n1 c1],Y t] w λe w'=>e=ZF (J I (ej (atI (nm1 f) n1 t)))/\Below w.heap.size w w':=by
 obtain⟨W,c⟩:∃W:M,w.alloc (N #[Z a0 n0 c0,Z (T (Q b off U)) n1 c1] 27)=W:=⟨_,rfl⟩
 obtain⟨l,-,-⟩:=nb1 c;have g:=ae c;clear c;have p:=ae (n.aa l ly);have k1:A W (Q w.heap.size 1 U)=T (Z (T (Q b off U)) n1 c1):=by rw[<-g.out];simp
 clear n;obtain⟨R,hR⟩:∃R,R=ej (atI (nm1 f) n1 t):=⟨_,rfl⟩
 rw[<-hR];have o:=ae hR;clear hR;go_enter func52,ntmps52;go_wp2;rw[g.out];clear g;go_loop [5] (λi=>∃k:Nat,k<=n1/\i=J I k/\Hid (cI (nm1 f) k t=ZA)) (λi=>n1 - (intOf i).toNat);case atStart=>exact⟨0,by omega,rfl,rfl⟩
 case round =>
  obtain⟨k,hk,rfl,j⟩:=hrel;by_cases h:k<n1
  ·obtain⟨d0,ka,kc,d1,_⟩:=p.2 k h;cases hb:((f k).e.toList == t.toList) with
   |true =>have m:=ae hb;go_wp2;go_ret;exact⟨by rw[o.out,sU h m.out j.out];rfl,l⟩
   |false =>have m:=ae hb;go_wp2;exact⟨⟨k+1,by omega,by go_num,by show cI (nm1 f) (k+1) t=ZA;rw[ke,j.out];exact m⟩,by simp[intOf];omega⟩
  ·have e:k=n1:=by omega
   subst e;go_wp2;go_ret;exact⟨by rw[o.out,vF j.out];rfl,l⟩
theorem rI (a0:Option Addr)(n0 c0:Nat)(a1:Option Addr)(c1:Nat)(t:ByteArray)(w:M):Calls Pg 52 #[.agg #[Z a0 n0 c0,Z a1 0 c1],Y t] w λe w'=>e=ZF (J I (-1))/\Below w.heap.size w w':=by
 have b:=ae ((q9 w).alloc ly (N #[Z a0 n0 c0,Z a1 0 c1] 27));go_enter func52,ntmps52;go_wp2;go_loop [5] (λi=>i=J I 0) (λ_=>0);case atStart=>rfl
 case round =>subst hrel;go_wp2;go_ret;exact⟨rfl,b⟩
theorem iZ (a0:Option Addr)(n0 c0:Nat)(a1:Option Addr)(n1 c1:Nat)(f:Nat->Target)(t:ByteArray)(w:M)(hn:(n1:Int)<=1048576)(g:SlTarget w a1 n1 f):Calls Pg 52 #[.agg #[Z a0 n0 c0,Z a1 n1 c1],Y t] w λe w'=>e=ZF (J I (ej (atI (nm1 f) n1 t)))/\Below w.heap.size w w':=by
 rcases g with rfl|⟨b,off,rfl,c⟩
 {exact rI a0 n0 c0 a1 c1 t w};{exact rH a0 n0 c0 b off n1 c1 f t w hn c}
theorem nU (m:SM):(smV m).length=6:=rfl
theorem cE{g cap:Nat}{L:List SM}(h:w.ownsRow b 198 6 (Z (T (Q g 0 U)) L.length cap) L.length (L.flatMap smV)){m:SM}(l:L[i]?=T m)(j:Nat)(f:j<6){u:ZC}(c:(smV m)[j]?=T u):A w (Q g (i*6+j) U)=T u:=by have h1:=h.cells (g:=g) rfl (i*6+j) u (by rw[dt smV 6 nU L i j f m l];exact c);rw[addr_add,FM] at h1;exact h1
theorem vG{L:List SM}{k:Nat}{m:SM}(b:L[k]?=T m)(h1:(m.e.toList == t.toList)=ZG)(h2:∀(j:Nat) (m:SM),j<k->L[j]?=T m->(m.e.toList == t.toList)=ZA):fI L t=T k:=by have g:=(n8.1 b).1;have c:=(n8.1 b).2;unfold fI;rw[SF];refine⟨g,by rw[c];exact h1,λj f=>?_⟩;rw[Bool.not_eq_true];exact h2 j _ f (gq (by omega))
theorem yA{L:List SM}(h2:∀(j:Nat) (m:SM),j<L.length->L[j]?=T m->(m.e.toList == t.toList)=ZA):fI L t=U:=by unfold fI;rw[SH];intro m c;obtain⟨j,b⟩:=Q9 c;exact h2 j m (n8.1 b).1 b
section
variable {w0:M}{hb:Nat}{s0 s1 md or st:ZC}{making:List ByteArray}{made:List Ent}{L:List SM}
theorem vH (w:M)(t:ByteArray)(r:Nat)(c2:A w (Q hb 2 U)=T md)(b:w.ownsRow r 198 6 md L.length (L.flatMap smV))(hL:L.length<=100000):Calls Pg 131 #[.pointer (T (Q hb 0 U)),Y t] w λe w'=>e=ZF (J I (ej (fI L t)))/\w'=w:=by
 obtain⟨R,hR⟩:∃R,R=ej (fI L t):=⟨_,rfl⟩
 rw[<-hR];have y:=ae hR;have o:=ae b;obtain⟨a,c,rfl⟩:∃a c,md=Z a L.length c:=by
  obtain⟨_,⟨rfl,e⟩|⟨g,cap,z,rfl,_⟩⟩:=b;{exact⟨U,0,by rw[e]⟩};{exact⟨_,_,rfl⟩}
 obtain⟨n,hn⟩:∃n,n=L.length:=⟨_,rfl⟩
 have q:=ae hn;rw[<-hn] at c2 hL;clear b hR hn;go_enter func131,ntmps131;go_wp2;go_loop [5] (λi=>∃k:Nat,k<=n/\i=J I k/\Hid (∀(j:Nat) (m:SM),j<k->L[j]?=T m->(m.e.toList == t.toList)=ZA)) (λi=>n - (intOf i).toNat);case atStart=>exact⟨0,by omega,rfl,λj m p=>absurd p (PK _)⟩
 case round =>
  obtain⟨k,hk,rfl,s⟩:=hrel;by_cases hlt:k<n
  ·obtain⟨m,f⟩:∃m,L[k]?=T m:=⟨_,gq (by have:=q.out;omega)⟩
   obtain⟨g,cap,z,e,-⟩:=o.2.resolve_left (λh=>by have:=q.out;omega);simp only[N1,TF] at e;obtain⟨rfl,rfl⟩:=e;have d0:A w (Q g (k*6) U)=T (Y m.e):=cE o f 0 (by omega) rfl;have x:=ae f;have hI:(k:Int)<(n:Int):=by omega
   clear f;cases hb2:(m.e.toList == t.toList) with
   |true =>have u:=ae hb2;go_wp2;go_ret;exact⟨by rw[y.out,vG x.out u.out s.out];rfl,rfl⟩
   |false =>
    have u:=ae hb2;go_wp2;refine⟨⟨k+1,by omega,by go_num,λj ZR p l=>?_⟩,by simp[intOf];omega⟩;by_cases e:j=k;{subst e;rw[x.out] at l;cases l;exact u};{exact s j ZR (by omega) l}
  ·have e:k=n:=by omega
   subst e;go_wp2;go_ret;exact⟨by rw[y.out,yA (λj m p f=>s.out j m (by have:=q.out;omega) f)];rfl,rfl⟩
theorem pr (w:M)(t:ByteArray)(h:SI w0 hb s0 s1 w making made L md or st)(hL:L.length<=100000):Calls Pg 131 #[.pointer (T (Q hb 0 U)),Y t] w λe w'=>e=ZF (J I (ej (fI L t)))/\w'=w:=by obtain⟨-,-,-,c2,-⟩:=h.G.K;exact vH w t w0.heap.size c2 h.W hL
end
structure pt (w0:M)(S:Spc)(a0:Option Addr)(a1:Option Addr):Prop where
 src:SlSource w0 a0 S.n0 S.f0
 R:SlTarget w0 a1 S.n1 S.f1
 ok:SpcOk S
def jh (w0:M)(hb:Nat)(w':M)(r:kY)(b:ZC):Prop:=∃s0 s1 md or st,ShBox w' hb s0 s1 md or st r.E r.B b ZG/\w'.ownsRow w0.heap.size 9 1 b r.j.length (b9 r.j)
structure LExt (n:Nat)(L L':List SM):Prop where
 nam:∀(i:Nat) (m:SM),L[i]?=T m->∃m':SM,L'[i]?=T m'/\m'.e=m.e
 sn:∀m∈L',m.done=ZG->(∃m0∈L,m0.done=ZG/\m0.sv=m.sv)∨∀k,m.sv.ownBlock=T k->n<=k
theorem LExt.refl (n:Nat)(L:List SM):LExt n L L:=⟨λ_ m h=>⟨m,h,rfl⟩,λm c b=>.inl ⟨m,c,b,rfl⟩⟩
theorem LExt.trans{o:Nat}{L q b:List SM}(h:LExt n L q)(k:LExt o q b)(hn:n<=o):LExt n L b:=by
 refine⟨λi m g=>?_,λm g s=>?_⟩;{obtain⟨c,h1,f⟩:=h.nam i m g;obtain⟨u,h2,t⟩:=k.nam i c h1;exact⟨u,h2,t.trans f⟩};{rcases k.sn m g s with ⟨m0,r,p,e⟩|h1;{rcases h.sn m0 r p with ⟨c,h1,l,f⟩|h1;{exact .inl ⟨c,h1,l,f.trans e⟩};{exact .inr λk j=>h1 k (by rw[e];exact j)}};{exact .inr λk j=>p7 hn (h1 k j)}}
def jA (c:List ByteArray):kY:=⟨6,⟨#[]⟩,c⟩
def jB (d:ByteArray):kY:=⟨7,d,[]⟩
def jr (r:kY)(b:ZC):ZC:=.agg #[J I r.E,Y r.B,b]
def mC (w0:M)(hb:Nat)(s0 s1:ZC)(making:List ByteArray)(L:List SM)(w:M)(e:Ending)(w':M):Out Ent->Prop
 |.inl (made',x)=>∃b g h f,e=ZF (.agg #[J I (dQ x).E,Y (dQ x).B,Z U 0 0])/\SI w0 hb s0 s1 w' making made' b g h f/\fG b making made'/\LExt w.heap.size L b/\KS w0.heap.size XN w w'
 |.inr (.inl c)=>∃a k,e=ZF (jr (jA c) (Z a c.length k))/\jh w0 hb w' (jA c) (Z a c.length k)/\KS w0.heap.size XN w w'
 |.inr (.inr d)=>e=ZF (jr (jB d) (Z U 0 0))/\jh w0 hb w' (jB d) (Z U 0 0)/\KS w0.heap.size XN w w'
def fi (S:Spc)(making:List ByteArray)(made:List Ent)(k:Nat):Prop:=made.length+201*ei S making made+k<=50000
def MT (S:Spc)(making:List ByteArray):Prop:=∀t∈making,(atI (nm1 S.f1) S.n1 t).isSome=ZG
def nE (w0:M)(S:Spc)(hb:Nat)(s0 s1:ZC)(n:Nat):Prop:=∀making made L md or st w nm,making.length+n=60->SI w0 hb s0 s1 w making made L md or st->fG L making made->PG S making made->fi S making made 1->MT S making->aw nm=ZG ->
 Calls Pg 130 #[.pointer (T (Q hb 0 U)),Y nm] w λe w'=>mC w0 hb s0 s1 making L w e w' (bH S n making made nm)
theorem lE{z:ZC}{a:Nat}(h:(Pg.info? e).map (λi=>(i.zero,i.size,i.bytes))=T (T z,a,b)):∃i,Pg.info? e=T i/\i.zero=T z/\i.size=a/\i.bytes=b:=by
 cases hi:Pg.info? e with
 |none=>rw[hi] at h;cases h
 |some i =>rw[hi] at h;simp only[UR,OJ,LK] at h;exact⟨i,rfl,h⟩
theorem pu:(Pg.info? 9).map (λi=>(i.zero,i.size,i.bytes))=T (T (Y ⟨#[]⟩),1,16):=by kernel_rfl
theorem Ai:(Pg.info? 166).map (λi=>(i.zero,i.size,i.bytes))=T (T (.agg #[ZD ZA,J I 0,Y ⟨#[]⟩]),3,32):=by kernel_rfl
theorem Fy:(Pg.info? 201).map (λi=>(i.zero,i.size,i.bytes))=T (T (.agg #[Y ⟨#[]⟩,ZD ZA,ZD ZA]),3,24):=by kernel_rfl
theorem Fz:(Pg.info? 198).map (λi=>(i.zero,i.size,i.bytes))=T (T (.agg #[Y ⟨#[]⟩,J I 0,Y ⟨#[]⟩,Z U 0 0,Z U 0 0,ZD ZA]),6,96):=by kernel_rfl
def mD (b:List aK):List ZC:=b.flatMap λr=>[ZD r.has,J I r.E,Y r.B]
theorem FC (b:List aK)(r:aK):mD (b++[r])=mD b++[ZD r.has,J I r.E,Y r.B]:=by simp[mD]
theorem CO (b:List Lk)(l:Lk):eF (b++[l])=eF b++[Y l.e,ZD l.ask,ZD l.has]:=by simp[eF]
theorem Ir{l g:Nat}{b:List aK}(h:w.ownsRow l 166 3 (Z (T (Q g 0 U)) b.length c) b.length (mD b)):RowReply w g 0 b.length (yL b):=by
 obtain⟨_,o,cs,hc⟩:=aj h g rfl;refine⟨o,λi hi=>?_⟩;have m:b[i]?=T (yL b i):=by simp[yL,gq hi]
 have f:∀j u,j<3->([Value.bool (yL b i).has,J I (yL b i).E,Y (yL b i).B]:List ZC)[j]?=T u->A w (Q g (i*3+j) U)=T u:=λj u n p=>by have h1:=h.cells (g:=g) rfl (i*3+j) u (by rw[mD,dt (λr:aK=>[ZD r.has,J I r.E,Y r.B]) 3 (λ_=>rfl) b i j n _ m];exact p);rw[addr_add,FM] at h1;exact h1
 refine⟨?_,?_,?_⟩;{rw[FM];exact f 0 _ (by omega) rfl};{rw[FM];exact f 1 _ (by omega) rfl};{rw[FM];exact f 2 _ (by omega) rfl}
theorem nV (w:M)(e:ZH)(size:Nat):(w.alloc (N #[] e)).ownsRow w.heap.size e size (Z (T (Q w.heap.size 0 U)) 0 0) 0 [] :=
 ⟨by simp,.inr ⟨w.heap.size,0,#[],rfl,n6 _,nL _ _,n6 _,E4 _,by simp,by simp⟩⟩
theorem CQ (h:SpcOk S)(i:tg<S.n1){b:List aK}(c:∀y∈b,dk y=ZG)(hl:b.length<=200):tZ (S.f1 tg).H (S.f1 tg).f (yL b) b.length=eY S tg b:=by
 unfold tZ;have f:bU (yL b) b.length=ZG:=by
  have:∀k,bU (yL b) k=ZG:=λk=>by
   induction k with
   |zero=>rfl
   |succ k g=>rw[bU,g,Gv c k];rfl
  exact this _
 rw[gM (by rw[h.H tg i];simp),gM (by omega),gM (by rw[f];simp)];rfl
theorem FD (b:SpcOk S)(c:tg<S.n1):∀i,i<(S.f1 tg).f->((S.f1 tg).H i).s.size<=maxLen:=λi hi=>by
 have h1:=gP (bP (b.H tg c)).1 hi;simp only[aH,AI] at h1;obtain⟨i1,i2,i3,i4,i5⟩:=h1;have hmt2:aE ((S.f1 tg).H i).op<=2000:=by unfold aE;split<;>omega
 unfold maxLen;omega
section
variable {w0:M}{S:Spc}{a0 a1:Option Addr}{c0 c1 hb:Nat}{md or st:ZC}{making:List ByteArray}{made:List Ent}{L:List SM}
theorem px (C:pt w0 S a0 a1)(w:M)(t:ByteArray)(c:Below w0.heap.size w0 w)(n:hb<w.heap.size)(j:A w (Q hb 0 U)=T (Z a0 S.n0 c0))(l:A w (Q hb 1 U)=T (Z a1 S.n1 c1)):Calls Pg 236 #[.pointer (T (Q hb 0 U)),Y t] w λe w'=>e=ZF (ZD (kW S t))/\Below w.heap.size w w':=by
 have r:=ae C;have o:=ae c;have hsm:=C.ok.av;obtain⟨R,hR⟩:∃R,R=kW S t:=⟨_,rfl⟩
 rw[<-hR];have m:Hid (R=((atI (nm0 S.f0) S.n0 t).isSome || (atI (nm1 S.f1) S.n1 t).isSome)):=by show _=_;rw[hR];unfold kW;rw[jg,jg]
 clear C c hR;go_enter func236,ntmps236;go_wp2_with fail;refine(iY a0 S.n0 c0 a1 S.n1 c1 S.f0 t w (by omega) (r.src.aa o ly)).mono ?_;rintro e u ⟨rfl,b⟩;have y:=(b.cell (p:=(Q hb 0 U)) n).trans j;have x:=(b.cell (p:=(Q hb 1 U)) n).trans l;have hl1:hb<u.heap.size:=lj n b.size;have h:=ae b;clear b j l;cases h0:atI (nm0 S.f0) S.n0 t with
 |some i =>
  have g:=ae h0;clear h0;have q:(0:Int)<=(i:Int):=by omega
  simp only[ej];go_wp2;go_ret;exact⟨by rw[m.out,g.out];rfl,h⟩
 |none =>
  have g:=ae h0;clear h0;simp only[ej];go_wp2_with fail;refine(iZ a0 S.n0 c0 a1 S.n1 c1 S.f1 t u (by omega) (r.R.aa (o.trans (h.mono o.size)) ly)).mono ?_;rintro e w2 ⟨rfl,b⟩;have s:=ae (h.trans (b.mono h.size));clear b y x;cases h1:atI (nm1 S.f1) S.n1 t with
  |some i =>
   have f:=ae h1;clear h1;have q:(0:Int)<=(i:Int):=by omega
   simp only[ej];go_wp2;go_ret;exact⟨by rw[m.out,g.out,f.out];simp,s⟩
  |none =>have f:=ae h1;clear h1;simp only[ej];go_wp2;go_ret;exact⟨by rw[m.out,g.out,f.out];rfl,s⟩
end
