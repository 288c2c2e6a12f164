import Derived.Test.YtpmnbjkjpnclaaaGreatDoorQP
import Derived.Test.YtpmnbjkjpnclaaaGreatDoorQE
import Derived.Maps.OwnSet
import Derived.Maps.Views
import Derived.Maps.RangeWalk
import Derived.StringKeys
import Derived.DeepKeys4
set_option maxHeartbeats 2000000
open Go renaming Addr.mk->Q,Value.slice->Z,Obj.cells->J,IntKind.i64->I,World->M,Value->ZC,TypeId->ZI,Ending.returned->ZF,World.heap->U,World.cell?->A,Proofs.Tryz.prog->Pg
open Option renaming none->Y,some->T
open Bool renaming false->ZA,true->ZG
open Array renaming size->N
namespace Go.Proofs.YtpmnbjkjpnclaaaGreatDoor.Vp
open Tryz RowKit Go.Maps
variable {w w':M}{b n B size i j c C hb l tg:Nat}{e:ZI}{X:Nat->Prop}{t sx:ByteArray}{f:List ZC}{s0 s1 md or:ZC}{g:Nat->ByteArray}{S:Spc}
def ID (v:ZC):Option (DataW ZC × List MemPlace):=T (.held v,[])
def KM (w:M)(b n:Nat)(G:List UInt8->Option ZC):Prop :=
 ∃D:DataW ZC,w.ownsMap Pg 9 ID b n D/\∀s,Maps.has D (.string s)=(G s).isSome/\∀v,G s=T v->∀c,D.atKey (.string s) c=.held v
structure KX (B:Nat)(X:Nat->Prop)(w w':M):Prop where
 aa:Below B w w'
 ad:∀i cs t fz,w.heap[i]?=T (J cs t fz)->t≠9->t≠172->t≠171->¬ X i->w'.heap[i]?=w.heap[i]?
def XN:Nat->Prop:=λ_=>False
theorem ai{o:Obj}(h:w.heap[i]?=T o):i<N (U w):=by
 rcases PR i (N (U w)) with b|b;{exact b};{rw[QK b] at h;cases h}
theorem ay{c:Array ZC}{t:ZI}(h:w.heap[b]?=T (J c t (0,0)))(v:ZC):(w.setCell (Q b j Y) v).heap[b]?=T (J (c.setIfInBounds j v) t (0,0)):=by simp only[World.setCell,CP,p6,h,UX];rfl
def Kn (w:M)(mb:Nat)(s0 s1:ZC)(mp:Nat)(mk md:ZC):Prop:=w.heap[mb]?=T (J #[s0,s1,.map (T mp),mk,md] 171 (0,0))
def bW (L:List ByteArray):List ZC:=L.map .string
def KN (G:ByteArray->Nat)(made:List Ent):List ZC:=made.map λx=>.pointer (T (Q (G x.e) 0 Y))
def KO (G:ByteArray->Nat)(l:Lk):List ZC:=[.string l.e,.bool l.ask,.bool l.has,.int I 0,.pointer (if l.ask=ZG then T (Q (G l.e) 0 Y) else Y)]
def GL (G:ByteArray->Nat)(b:List Lk):List ZC:=b.flatMap (KO G)
def Ko (G:ByteArray->Nat)(making:List ByteArray)(made:List Ent)(s:List UInt8):Option ZC :=
 match made.find? (λe=>e.e.toList == s) with
 |some e=>T (.agg #[.int I 0,.pointer (T (Q (G e.e) 0 Y))])
 |none=>(making.findIdx? λx=>x.toList == s).map λ(i:Nat)=>.agg #[.int I (i:Int),.pointer Y]
def CZ (w:M)(b:Nat)(nm:ByteArray)(kind code:Int)(text:ByteArray)(act c:ZC)(place:Int):Prop :=
 w.heap[b]?=T (J #[.string nm,.int I kind,.int I code,.string text,act,Z Y 0 0,c,.int I place] 176 (0,0))
def Kq (w0:M)(S:Spc)(kind:Int)(tg:Nat)(act:ZC):Prop :=
 if kind=3 then tg<S.n1/\∃a cap,act=Z a (S.f1 tg).f cap/\SlIns w0 a (S.f1 tg).f (S.f1 tg).H else act=Z Y 0 0
structure Kr (w0:M)(S:Spc)(G:ByteArray->Nat)(w:M)(b:Nat)(v:ZC)(x:Ent):Prop where
 ad:∃act,CZ w b x.e x.m x.E x.B act v 0/\Kq w0 S x.m x.tg act
 ge:N (U w0)<=b
 row:w.ownsRow (N (U w0)) 280 5 v x.looks.length (GL G x.looks)
theorem dw{v:ZC}(h:w.ownsRow b e size v n f)(hb:∀k,v.ownBlock=T k->w'.heap[k]?=w.heap[k]?):w'.ownsRow b e size v n f:=by
 obtain⟨h1,h2|⟨g,cap,c,rfl,h3,h4,i⟩⟩:=h;{exact⟨h1,.inl h2⟩};{exact⟨h1,.inr ⟨g,cap,c,rfl,h3,(hb g rfl).trans h4,i⟩⟩}
theorem aj{v:ZC}{j:List ZC}(h:w.ownsRow b e size v n j):∀k,v.ownBlock=T k->b<=k/\k<N (U w)/\∃i,w.heap[k]?=T (J i e (0,0)):=by
 intro k f;obtain⟨h1,⟨rfl,_⟩|⟨g,cap,c,rfl,h3,h4,h5⟩⟩:=h;{cases f}
 ·cases f
  exact⟨h3,ai h4,c,h4⟩
structure MIg (w0:M)(S:Spc)(mb mp:Nat)(s0 s1:ZC)(w:M)(cnt:Nat)(F:List UInt8->Option ZC)(nk:Nat)(ks:List ZC)(np:Nat)(ps:List ZC)(made:List Ent)(G:ByteArray->Nat)(V:ByteArray->ZC)(mk md:ZC):Prop where
 aq:Below (N (U w0)) w0 w
 mbB:N (U w0)<=mb
 mpB:N (U w0)<=mp
 ab:Kn w mb s0 s1 mp mk md
 rmk:w.ownsRow (N (U w0)) 9 1 mk nk ks
 W:w.ownsRow (N (U w0)) 172 1 md np ps
 map:KM w mp cnt F
 ents:∀x∈made,Kr w0 S G w (G x.e) (V x.e) x
 dist:made.Pairwise λx y=>G x.e≠G y.e
abbrev MI (w0:M)(S:Spc)(mb mp:Nat)(s0 s1:ZC)(w:M)(mm making:List ByteArray)(made:List Ent)(G:ByteArray->Nat)(V:ByteArray->ZC)(mk md:ZC):Prop :=
 MIg w0 S mb mp s0 s1 w (2*made.length+mm.length) (Ko G mm made) making.length (bW making) made.length (KN G made) made G V mk md
section
variable {w0 w w':M}{S:Spc}{mb mp:Nat}{s0 s1 mk md:ZC}{cnt nk np:Nat}{F:List UInt8->Option ZC}{ks ps:List ZC}{made:List Ent}{G:ByteArray->Nat}{V:ByteArray->ZC}
theorem aA{w:M}{v:ZC}(h:w.ownsRow c e size v n f)(hb:v.ownBlock≠T b)(j:Nat)(u:ZC):(w.setCell (Q b j Y) u).ownsRow c e size v n f :=
 dw h λk g=>qh _ _ _ _ λe=>hb (by rw[g];exact wA T e)
theorem ar{w:M}{l i:Array ZC}{t g:ZI}{f j:Nat × Nat}(h:w.heap[b]?=T (J l t f))(c:w.heap[b]?=T (J i g j)):t=g:=by rw[h] at c;simp only[OU,Obj.cells.injEq] at c;exact c.2.1
end
structure EU (w0:M)(S:Spc)(w:M)(eb:Nat)(nm:ByteArray)(tg:Nat)(G:ByteArray->Nat)(ls:List Lk)(v:ZC)(made:List Ent)(V:ByteArray->ZC):Prop where
 ad:∃a cap,CZ w eb nm 3 0 ⟨#[]⟩ (Z a (S.f1 tg).f cap) v 0/\SlIns w0 a (S.f1 tg).f (S.f1 tg).H
 ge:N (U w0)<=eb
 row:w.ownsRow (N (U w0)) 280 5 v ls.length (GL G ls)
 free:∀x∈made,G x.e≠eb
 apart:∀x∈made,∀k,v.ownBlock=T k->(V x.e).ownBlock≠T k
 asked:∀l∈ls,l.ask=ZG->∃x∈made,x.e=l.e
section
variable {w0 w:M}{S:Spc}{mb mp:Nat}{s0 s1 mk md:ZC}{mm making:List ByteArray}{made:List Ent}{G:ByteArray->Nat}{V:ByteArray->ZC}
structure Ext (n:Nat)(made made':List Ent)(G G':ByteArray->Nat)(V V':ByteArray->ZC):Prop where
 pre:∃more,made'=made++more
 same:∀x∈made,G' x.e=G x.e/\V' x.e=V x.e
 new:∀x∈made',x∈made∨(n<=G' x.e/\∀k,(V' x.e).ownBlock=T k->n<=k)
end
def Ks (S:Spc)(making:List ByteArray)(made:List Ent)(k:Nat):Prop:=made.length+201*d9 S making made+k<=50000
open Ca
theorem ix{v:ZC}{c:List ZC}(h:w.ownsRow b e size v n c):∃a cap,v=Z a n cap:=by
 obtain⟨_,⟨rfl,rfl⟩|⟨g,cap,cur,rfl,_⟩⟩:=h;{exact⟨Y,0,rfl⟩};{exact⟨_,_,rfl⟩}
def TB (w:M)(g:Nat)(t:Turn):Prop:=w.heap[g]?=T (J #[.bool t.over,.int I t.E,.string t.B,.bool t.ask,.string t.e,.int I t.steps] 163 (0,0))
def JL (S:Spc)(tg:Nat)(b:List aI)(H:Halt):Prop:=∀(y:Nat->aI) (n:Nat),b.length<=n->(∀i,i<b.length->y i=yL b i)->Kh (S.f1 tg).H (S.f1 tg).f y n H=dn (S.f1 tg).H (S.f1 tg).f y n 2001 0 0 0 []
structure RI (w0:M)(S:Spc)(mb mp:Nat)(s0 s1:ZC)(w:M)(n:Nat)(making:List ByteArray)(eb tg:Nat)(nm:ByteArray)(b:Nat)(cv:ZC)(tb:Nat)(made0:List Ent)(G0:ByteArray->Nat)(V0:ByteArray->ZC)(R0:Out (Turn × List Lk))(wr:M)(ys:List aI)(ls:List Lk)(made:List Ent)(G:ByteArray->Nat)(V:ByteArray->ZC)(mk md v:ZC)(m:Mst)(H:Halt):Prop where
 mi:MI w0 S mb mp s0 s1 wr making making made G V mk md
 pg:PG S making made
 rg:RG S made ys ls
 room:Ks S making made (201 - ys.length)
 eu:EU w0 S wr eb nm tg G ls v made V
 ma:MAt wr b cv m
 ty:∃cs,wr.heap[b]?=T (J cs 345 (0,0))
 tb:TB wr tb m.t
 st:Jo m H
 lk:Hu ys.length H
 co:JL S tg ys H
 run:dR S (bC S n making) tg (201 - ys.length) made ys ls=R0
 le:ys.length<=200
 ext:Ext (N (U w)) made0 made G0 G V0 V
 kx:KX (N (U w0)) (λi=>i=eb) w wr
 vn:∀k,v.ownBlock=T k->N (U w)<=k
structure KS (B:Nat)(X:Nat->Prop)(w w':M):Prop where
 aa:Below B w w'
 ad:∀i cs t fz,w.heap[i]?=T (J cs t fz)->t≠9->t≠198->t≠117->¬ X i->w'.heap[i]?=w.heap[i]?
theorem KS.trans{ZK:Nat->Prop}{b:M}(h:KS B X w w')(k:KS B ZK w' b)(f:∀i,i<N (U w)->ZK i->X i):KS B X w b :=
 ⟨h.aa.trans k.aa,λi c t fz hi h1 h2 h3 hX=>by
  have e:=h.ad i c t fz hi h1 h2 h3 hX;rw[<-e]
  exact k.ad i c t fz (e.trans hi) h1 h2 h3 λg=>hX (f i (ai hi) g)⟩
theorem KS.to{b:M}(h:KS B X w w')(k:KS B XN w' b):KS B X w b:=h.trans k λ_ _ h=>h.elim
theorem KS.u (h:Below C w w')(b:N (U w)<=C)(c:B<=N (U w)):KS B X w w' :=
 ⟨h.mono (p7 c b),λi _ _ _ hi _ _ _ _=>h.block i (lj (ai hi) b)⟩
theorem KS.of_grown{row:Option Nat}(h:w.grownBy w' row)(g:B<=N (U w))(f:∀j,row=T j->B<=j/\(X j∨∀b t fz,w.heap[j]?=T (J b t fz)->t=9∨t=198∨t=117)):KS B X w w':=by
 refine⟨⟨h.os,h.tape,h.output,h.size,λk l=>h.block k (lj l g) λe=>?_⟩,λi b t fz hi h1 h2 h3 hX=>h.block i (ai hi) λe=>?_⟩;{have:=(f k e.symm).1;omega};{rcases(f i e.symm).2 with c|c;{exact hX c};{rcases c b t fz hi with e|e|e;{exact h1 e};{exact h2 e};{exact h3 e}}}
theorem KS.setCell (w:M)(hb:B<=b)(c:X b∨∀f t fz,w.heap[b]?=T (J f t fz)->t=9∨t=198∨t=117)(v:ZC):KS B X w (w.setCell (Q b j Y) v):=by
 refine⟨(dB B w).setCell hb v,λi f t fz hi h1 h2 h3 hX=>?_⟩;refine qh _ _ _ _ λe=>?_;simp at e;subst e;rcases c with c|c;{exact hX c};{rcases c f t fz hi with e|e|e;{exact h1 e};{exact h2 e};{exact h3 e}}
def ShBox (w:M)(hb:Nat)(s0 s1 md or st:ZC)(f:Int)(sx:ByteArray)(c:ZC)(b:Bool):Prop:=w.heap[hb]?=T (J #[s0,s1,md,or,st,.int I f,.string sx,c,.bool b] 117 (0,0))
theorem ShBox.K{st c:ZC}{f:Int}{b:Bool}(h:ShBox w hb s0 s1 md or st f sx c b):hb<N (U w)/\A w (Q hb 0 Y)=T s0/\A w (Q hb 1 Y)=T s1/\A w (Q hb 2 Y)=T md/\A w (Q hb 3 Y)=T or/\A w (Q hb 4 Y)=T st/\A w (Q hb 5 Y)=T (.int I f)/\A w (Q hb 6 Y)=T (.string sx)/\A w (Q hb 7 Y)=T c/\A w (Q hb 8 Y)=T (.bool b)/\∀j,w.frozen? (Q hb j Y)=ZA:=by unfold ShBox at h;refine⟨ai h,?_,?_,?_,?_,?_,?_,?_,?_,?_,λj=>?_⟩;all_goals simp[World.cell?,World.frozen?,h]
theorem ShBox.ad{st c:ZC}{f:Int}{b:Bool}(h:ShBox w hb s0 s1 md or st f sx c b)(g:w'.heap[hb]?=w.heap[hb]?):ShBox w' hb s0 s1 md or st f sx c b:=g.trans h
structure SM where
 e:ByteArray
 E:Int
 B:ByteArray
 c:List Lk
 sv:ZC
 done:Bool
def smV (m:SM):List ZC:=[.string m.e,.int I m.E,.string m.B,Z Y 0 0,m.sv,.bool m.done]
def eG (b:List Lk):List ZC:=b.flatMap λl=>[.string l.e,.bool l.ask,.bool l.has]
def fI (L:List SM)(t:ByteArray):Option Nat:=L.findIdx? λm=>m.e.toList == t.toList
structure fH (L:List SM)(making:List ByteArray)(made:List Ent):Prop where
 nod:L.Pairwise λm m'=>m.e≠m'.e
 len:L.length=made.length+making.length
 got:∀x∈made,∃m∈L,m.e=x.e/\m.done=ZG/\m.E=(dS x).E/\m.B=(dS x).B/\m.c=x.looks
 mkg:∀t∈making,∃m∈L,m.e=t/\m.done=ZA
 all:∀m∈L,(∃x∈made,x.e=m.e)∨m.e∈making
structure SI (w0:M)(hb:Nat)(s0 s1:ZC)(w:M)(making:List ByteArray)(made:List Ent)(L:List SM)(md or st:ZC):Prop where
 aq:Below (N (U w0)) w0 w
 hbB:N (U w0)<=hb
 ab:ShBox w hb s0 s1 md or st 0 ⟨#[]⟩ (Z Y 0 0) ZA
 W:w.ownsRow (N (U w0)) 198 6 md L.length (L.flatMap smV)
 ror:w.ownsRow (N (U w0)) 9 1 or made.length (bW (made.map (·.e)))
 rst:w.ownsRow (N (U w0)) 9 1 st making.length (bW making)
 apart:∀k,or.ownBlock=T k->st.ownBlock≠T k
 c:∀m∈L,m.done=ZG->w.ownsRow (N (U w0)) 201 3 m.sv m.c.length (eG m.c)
section
variable {w0 w w':M}{hb:Nat}{s0 s1 md or st:ZC}{making:List ByteArray}{made:List Ent}{L:List SM}
theorem SI.lt (h:SI w0 hb s0 s1 w making made L md or st):N (U w0)<=N (U w):=h.aq.size
theorem SI.aa (h:SI w0 hb s0 s1 w making made L md or st)(b:Below C w w')(c:N (U w)<=C):SI w0 hb s0 s1 w' making made L md or st :=
 ⟨h.aq.trans (b.mono (p7 h.lt c)),h.hbB,h.ab.ad (b.block _ (lj (ai h.ab) c)),own_below h.W b c,own_below h.ror b c,own_below h.rst b c,h.apart,λm f g=>own_below (h.c m f g) b c⟩
end
def ej:Option Nat->Int
 |some i=>(i:Int)
 |none=>-1
theorem jh (g:Nat->ByteArray)(n:Nat)(t:ByteArray):cI g n t=(atI g n t).isSome:=by unfold cI atI;rw[SW,List.find?_isSome,List.any_eq_true]
theorem vI (h:cI g n t=ZA):atI g n t=Y:=by rw[jh] at h;exact Option.isNone_iff_eq_none.1 (by simpa using h)
theorem sX{k:Nat}(b:k<n)(h1:((g k).toList == t.toList)=ZG)(h2:cI g k t=ZA):atI g n t=T k:=by
 unfold atI;rw[List.find?_range_eq_some];refine⟨h1,PL.2 b,λj c=>?_⟩;cases e:((g j).toList == t.toList) with
 |false=>rfl
 |true =>rw[mT c e] at h2;cases h2
theorem rI (b off n0 c0:Nat)(a1:Option Addr)(n1 c1:Nat)(f:Nat->Source)(t:ByteArray)(w:M)(hn:(n0:Int)<=1048576)(o:RowSource w b off n0 f):Calls Pg 51 #[.agg #[Z (T (Q b off Y)) n0 c0,Z a1 n1 c1],.string t] w λe w'=>e=ZF (.int I (ej (atI (nm0 f) n0 t)))/\Below (N (U w)) w w':=by
 obtain⟨W,g⟩:∃W:M,w.alloc (J #[Z (T (Q b off Y)) n0 c0,Z a1 n1 c1] 27)=W:=⟨_,rfl⟩
 obtain⟨m,-,-⟩:=nb1 g;have c:=ae g;clear g;have p:=ae (o.aa m ly);have k1:A W (Q (N (U w)) 0 Y)=T (Z (T (Q b off Y)) n0 c0):=by rw[<-c.out];simp
 clear o;obtain⟨R,hR⟩:∃R,R=ej (atI (nm0 f) n0 t):=⟨_,rfl⟩
 rw[<-hR];have n:=ae hR;clear hR;go_enter func51,ntmps51;go_wp2;rw[c.out];clear c;go_loop [5] (λi=>∃k:Nat,k<=n0/\i=.int I k/\Hid (cI (nm0 f) k t=ZA)) (λi=>n0 - (intOf i).toNat);case atStart=>exact⟨0,by omega,rfl,rfl⟩
 case round =>
  obtain⟨k,hk,rfl,j⟩:=hrel;by_cases h:k<n0
  ·obtain⟨d0,d1⟩:=p.2 k h;cases hb:((f k).e.toList == t.toList) with
   |true =>have l:=ae hb;go_wp2;go_ret;exact⟨by rw[n.out,sX h l.out j.out];rfl,m⟩
   |false =>have l:=ae hb;go_wp2;exact⟨⟨k+1,by omega,by go_num,by show cI (nm0 f) (k+1) t=ZA;rw[kf,j.out];exact l⟩,by simp[intOf];omega⟩
  ·have e:k=n0:=by omega
   subst e;go_wp2;go_ret;exact⟨by rw[n.out,vI j.out];rfl,m⟩
theorem rJ (a0:Option Addr)(c0:Nat)(a1:Option Addr)(n1 c1:Nat)(t:ByteArray)(w:M):Calls Pg 51 #[.agg #[Z a0 0 c0,Z a1 n1 c1],.string t] w λe w'=>e=ZF (.int I (-1))/\Below (N (U w)) w w':=by
 have b:=ae ((q9 w).alloc ly (J #[Z a0 0 c0,Z a1 n1 c1] 27));go_enter func51,ntmps51;go_wp2;go_loop [5] (λi=>i=.int I 0) (λ_=>0);case atStart=>rfl
 case round =>subst hrel;go_wp2;go_ret;exact⟨rfl,b⟩
theorem iZ (a0:Option Addr)(n0 c0:Nat)(a1:Option Addr)(n1 c1:Nat)(f:Nat->Source)(t:ByteArray)(w:M)(hn:(n0:Int)<=1048576)(c:SlSource w a0 n0 f):Calls Pg 51 #[.agg #[Z a0 n0 c0,Z a1 n1 c1],.string t] w λe w'=>e=ZF (.int I (ej (atI (nm0 f) n0 t)))/\Below (N (U w)) w w':=by
 rcases c with rfl|⟨b,off,rfl,g⟩
 {exact rJ a0 c0 a1 n1 c1 t w};{exact rI b off n0 c0 a1 n1 c1 f t w hn g}
theorem rK (a0:Option Addr)(n0 c0 b off n1 c1:Nat)(f:Nat->Target)(t:ByteArray)(w:M)(hn:(n1:Int)<=1048576)(o:RowTarget w b off n1 f):Calls Pg 52 #[.agg #[Z a0 n0 c0,Z (T (Q b off Y)) n1 c1],.string t] w λe w'=>e=ZF (.int I (ej (atI (nm1 f) n1 t)))/\Below (N (U w)) w w':=by
 obtain⟨W,g⟩:∃W:M,w.alloc (J #[Z a0 n0 c0,Z (T (Q b off Y)) n1 c1] 27)=W:=⟨_,rfl⟩
 obtain⟨m,-,-⟩:=nb1 g;have c:=ae g;clear g;have p:=ae (o.aa m ly);have k1:A W (Q (N (U w)) 1 Y)=T (Z (T (Q b off Y)) n1 c1):=by rw[<-c.out];simp
 clear o;obtain⟨R,hR⟩:∃R,R=ej (atI (nm1 f) n1 t):=⟨_,rfl⟩
 rw[<-hR];have n:=ae hR;clear hR;go_enter func52,ntmps52;go_wp2;rw[c.out];clear c;go_loop [5] (λi=>∃k:Nat,k<=n1/\i=.int I k/\Hid (cI (nm1 f) k t=ZA)) (λi=>n1 - (intOf i).toNat);case atStart=>exact⟨0,by omega,rfl,rfl⟩
 case round =>
  obtain⟨k,hk,rfl,j⟩:=hrel;by_cases h:k<n1
  ·obtain⟨d0,ka,kc,d1,_⟩:=p.2 k h;cases hb:((f k).e.toList == t.toList) with
   |true =>have l:=ae hb;go_wp2;go_ret;exact⟨by rw[n.out,sX h l.out j.out];rfl,m⟩
   |false =>have l:=ae hb;go_wp2;exact⟨⟨k+1,by omega,by go_num,by show cI (nm1 f) (k+1) t=ZA;rw[kf,j.out];exact l⟩,by simp[intOf];omega⟩
  ·have e:k=n1:=by omega
   subst e;go_wp2;go_ret;exact⟨by rw[n.out,vI j.out];rfl,m⟩
theorem rL (a0:Option Addr)(n0 c0:Nat)(a1:Option Addr)(c1:Nat)(t:ByteArray)(w:M):Calls Pg 52 #[.agg #[Z a0 n0 c0,Z a1 0 c1],.string t] w λe w'=>e=ZF (.int I (-1))/\Below (N (U w)) w w':=by
 have b:=ae ((q9 w).alloc ly (J #[Z a0 n0 c0,Z a1 0 c1] 27));go_enter func52,ntmps52;go_wp2;go_loop [5] (λi=>i=.int I 0) (λ_=>0);case atStart=>rfl
 case round =>subst hrel;go_wp2;go_ret;exact⟨rfl,b⟩
theorem i8 (a0:Option Addr)(n0 c0:Nat)(a1:Option Addr)(n1 c1:Nat)(f:Nat->Target)(t:ByteArray)(w:M)(hn:(n1:Int)<=1048576)(c:SlTarget w a1 n1 f):Calls Pg 52 #[.agg #[Z a0 n0 c0,Z a1 n1 c1],.string t] w λe w'=>e=ZF (.int I (ej (atI (nm1 f) n1 t)))/\Below (N (U w)) w w':=by
 rcases c with rfl|⟨b,off,rfl,g⟩
 {exact rL a0 n0 c0 a1 c1 t w};{exact rK a0 n0 c0 b off n1 c1 f t w hn g}
theorem nZ (m:SM):(smV m).length=6:=rfl
theorem cE{g cap:Nat}{L:List SM}(h:w.ownsRow b 198 6 (Z (T (Q g 0 Y)) L.length cap) L.length (L.flatMap smV)){m:SM}(l:L[i]?=T m)(j:Nat)(c:j<6){u:ZC}(f:(smV m)[j]?=T u):A w (Q g (i*6+j) Y)=T u:=by have h1:=h.cells (g:=g) rfl (i*6+j) u (by rw[du smV 6 nZ L i j c m l];exact f);rw[addr_add,FM] at h1;exact h1
theorem vJ{L:List SM}{k:Nat}{m:SM}(b:L[k]?=T m)(h1:(m.e.toList == t.toList)=ZG)(h2:∀(j:Nat) (m:SM),j<k->L[j]?=T m->(m.e.toList == t.toList)=ZA):fI L t=T k:=by have f:=(n8.1 b).1;have g:=(n8.1 b).2;unfold fI;rw[SU];refine⟨f,by rw[g];exact h1,λj c=>?_⟩;rw[Bool.not_eq_true];exact h2 j _ c (gq (by omega))
theorem yD{L:List SM}(h2:∀(j:Nat) (m:SM),j<L.length->L[j]?=T m->(m.e.toList == t.toList)=ZA):fI L t=Y:=by unfold fI;rw[SV];intro m c;obtain⟨j,b⟩:=RK c;exact h2 j m (n8.1 b).1 b
section
variable {w0:M}{hb:Nat}{s0 s1 md or st:ZC}{making:List ByteArray}{made:List Ent}{L:List SM}
theorem vK (w:M)(t:ByteArray)(p:Nat)(c2:A w (Q hb 2 Y)=T md)(f:w.ownsRow p 198 6 md L.length (L.flatMap smV))(hL:L.length<=100000):Calls Pg 131 #[.pointer (T (Q hb 0 Y)),.string t] w λe w'=>e=ZF (.int I (ej (fI L t)))/\w'=w:=by
 obtain⟨R,hR⟩:∃R,R=ej (fI L t):=⟨_,rfl⟩
 rw[<-hR];have y:=ae hR;have o:=ae f;obtain⟨a,c,rfl⟩:∃a c,md=Z a L.length c:=by
  obtain⟨_,⟨rfl,e⟩|⟨g,cap,x,rfl,_⟩⟩:=f;{exact⟨Y,0,by rw[e]⟩};{exact⟨_,_,rfl⟩}
 obtain⟨n,hn⟩:∃n,n=L.length:=⟨_,rfl⟩
 have s:=ae hn;rw[<-hn] at c2 hL;clear f hR hn;go_enter func131,ntmps131;go_wp2;go_loop [5] (λi=>∃k:Nat,k<=n/\i=.int I k/\Hid (∀(j:Nat) (m:SM),j<k->L[j]?=T m->(m.e.toList == t.toList)=ZA)) (λi=>n - (intOf i).toNat);case atStart=>exact⟨0,by omega,rfl,λj m q=>absurd q (PS _)⟩
 case round =>
  obtain⟨k,hk,rfl,r⟩:=hrel;by_cases hlt:k<n
  ·obtain⟨m,b⟩:∃m,L[k]?=T m:=⟨_,gq (by have:=s.out;omega)⟩
   obtain⟨g,cap,x,e,-⟩:=o.2.resolve_left (λh=>by have:=s.out;omega);simp only[OJ,TM] at e;obtain⟨rfl,rfl⟩:=e;have d0:A w (Q g (k*6) Y)=T (.string m.e):=cE o b 0 (by omega) rfl;have z:=ae b;have hI:(k:Int)<(n:Int):=by omega
   clear b;cases hb2:(m.e.toList == t.toList) with
   |true =>have u:=ae hb2;go_wp2;go_ret;exact⟨by rw[y.out,vJ z.out u.out r.out];rfl,rfl⟩
   |false =>
    have u:=ae hb2;go_wp2;refine⟨⟨k+1,by omega,by go_num,λj ZS q l=>?_⟩,by simp[intOf];omega⟩;by_cases e:j=k;{subst e;rw[z.out] at l;cases l;exact u};{exact r j ZS (by omega) l}
  ·have e:k=n:=by omega
   subst e;go_wp2;go_ret;exact⟨by rw[y.out,yD (λj m q b=>r.out j m (by have:=s.out;omega) b)];rfl,rfl⟩
theorem py (w:M)(t:ByteArray)(h:SI w0 hb s0 s1 w making made L md or st)(hL:L.length<=100000):Calls Pg 131 #[.pointer (T (Q hb 0 Y)),.string t] w λe w'=>e=ZF (.int I (ej (fI L t)))/\w'=w:=by obtain⟨-,-,-,c2,-⟩:=h.ab.K;exact vK w t (N (U w0)) c2 h.W hL
end
structure pz (w0:M)(S:Spc)(a0:Option Addr)(a1:Option Addr):Prop where
 src:SlSource w0 a0 S.n0 S.f0
 R:SlTarget w0 a1 S.n1 S.f1
 ok:SpcOk S
def ji (w0:M)(hb:Nat)(w':M)(r:kZ)(b:ZC):Prop:=∃s0 s1 md or st,ShBox w' hb s0 s1 md or st r.E r.B b ZG/\w'.ownsRow (N (U w0)) 9 1 b r.j.length (bW r.j)
structure LExt (n:Nat)(L L':List SM):Prop where
 nam:∀(i:Nat) (m:SM),L[i]?=T m->∃m':SM,L'[i]?=T m'/\m'.e=m.e
 sn:∀m∈L',m.done=ZG->(∃m0∈L,m0.done=ZG/\m0.sv=m.sv)∨∀k,m.sv.ownBlock=T k->n<=k
theorem LExt.refl (n:Nat)(L:List SM):LExt n L L:=⟨λ_ m h=>⟨m,h,rfl⟩,λm c b=>.inl ⟨m,c,b,rfl⟩⟩
theorem LExt.trans{L o b:List SM}(h:LExt n L o)(k:LExt l o b)(hn:n<=l):LExt n L b:=by
 refine⟨λi m c=>?_,λm c s=>?_⟩;{obtain⟨g,h1,j⟩:=h.nam i m c;obtain⟨t,h2,u⟩:=k.nam i g h1;exact⟨t,h2,u.trans j⟩};{rcases k.sn m c s with ⟨m0,r,q,e⟩|h1;{rcases h.sn m0 r q with ⟨g,h1,p,j⟩|h1;{exact .inl ⟨g,h1,p,j.trans e⟩};{exact .inr λk f=>h1 k (by rw[e];exact f)}};{exact .inr λk f=>p7 hn (h1 k f)}}
def jB (c:List ByteArray):kZ:=⟨6,⟨#[]⟩,c⟩
def jC (d:ByteArray):kZ:=⟨7,d,[]⟩
def js (r:kZ)(b:ZC):ZC:=.agg #[.int I r.E,.string r.B,b]
def mF (w0:M)(hb:Nat)(s0 s1:ZC)(making:List ByteArray)(L:List SM)(w:M)(e:Ending)(w':M):Out Ent->Prop
 |.inl (made',x)=>∃b h f g,e=ZF (.agg #[.int I (dS x).E,.string (dS x).B,Z Y 0 0])/\SI w0 hb s0 s1 w' making made' b h f g/\fH b making made'/\LExt (N (U w)) L b/\KS (N (U w0)) XN w w'
 |.inr (.inl c)=>∃a k,e=ZF (js (jB c) (Z a c.length k))/\ji w0 hb w' (jB c) (Z a c.length k)/\KS (N (U w0)) XN w w'
 |.inr (.inr d)=>e=ZF (js (jC d) (Z Y 0 0))/\ji w0 hb w' (jC d) (Z Y 0 0)/\KS (N (U w0)) XN w w'
def fj (S:Spc)(making:List ByteArray)(made:List Ent)(k:Nat):Prop:=made.length+201*d9 S making made+k<=50000
def MT (S:Spc)(making:List ByteArray):Prop:=∀t∈making,(atI (nm1 S.f1) S.n1 t).isSome=ZG
def nH (w0:M)(S:Spc)(hb:Nat)(s0 s1:ZC)(n:Nat):Prop:=∀making made L md or st w nm,making.length+n=60->SI w0 hb s0 s1 w making made L md or st->fH L making made->PG S making made->fj S making made 1->MT S making->aw nm=ZG ->
 Calls Pg 130 #[.pointer (T (Q hb 0 Y)),.string nm] w λe w'=>mF w0 hb s0 s1 making L w e w' (bC S n making made nm)
theorem lF{z:ZC}{a:Nat}(h:(Pg.info? e).map (λi=>(i.zero,i.size,i.bytes))=T (T z,a,b)):∃i,Pg.info? e=T i/\i.zero=T z/\i.size=a/\i.bytes=b:=by
 cases hi:Pg.info? e with
 |none=>rw[hi] at h;cases h
 |some i =>rw[hi] at h;simp only[UX,OU,LN] at h;exact⟨i,rfl,h⟩
theorem pA:(Pg.info? 9).map (λi=>(i.zero,i.size,i.bytes))=T (T (.string ⟨#[]⟩),1,16):=by kernel_rfl
theorem Am:(Pg.info? 166).map (λi=>(i.zero,i.size,i.bytes))=T (T (.agg #[.bool ZA,.int I 0,.string ⟨#[]⟩]),3,32):=by kernel_rfl
theorem FJ:(Pg.info? 201).map (λi=>(i.zero,i.size,i.bytes))=T (T (.agg #[.string ⟨#[]⟩,.bool ZA,.bool ZA]),3,24):=by kernel_rfl
theorem FK:(Pg.info? 198).map (λi=>(i.zero,i.size,i.bytes))=T (T (.agg #[.string ⟨#[]⟩,.int I 0,.string ⟨#[]⟩,Z Y 0 0,Z Y 0 0,.bool ZA]),6,96):=by kernel_rfl
def mG (b:List aI):List ZC:=b.flatMap λr=>[.bool r.has,.int I r.E,.string r.B]
theorem FP (b:List aI)(r:aI):mG (b++[r])=mG b++[.bool r.has,.int I r.E,.string r.B]:=by simp[mG]
theorem Dc (b:List Lk)(l:Lk):eG (b++[l])=eG b++[.string l.e,.bool l.ask,.bool l.has]:=by simp[eG]
theorem IE{g:Nat}{b:List aI}(h:w.ownsRow l 166 3 (Z (T (Q g 0 Y)) b.length c) b.length (mG b)):RowReply w g 0 b.length (yL b):=by
 obtain⟨_,o,cs,hc⟩:=aj h g rfl;refine⟨o,λi hi=>?_⟩;have p:b[i]?=T (yL b i):=by simp[yL,gq hi]
 have f:∀j u,j<3->([Value.bool (yL b i).has,.int I (yL b i).E,.string (yL b i).B]:List ZC)[j]?=T u->A w (Q g (i*3+j) Y)=T u:=λj u n m=>by have h1:=h.cells (g:=g) rfl (i*3+j) u (by rw[mG,du (λr:aI=>[.bool r.has,.int I r.E,.string r.B]) 3 (λ_=>rfl) b i j n _ p];exact m);rw[addr_add,FM] at h1;exact h1
 refine⟨?_,?_,?_⟩;{rw[FM];exact f 0 _ (by omega) rfl};{rw[FM];exact f 1 _ (by omega) rfl};{rw[FM];exact f 2 _ (by omega) rfl}
theorem od (w:M)(e:ZI)(size:Nat):(w.alloc (J #[] e)).ownsRow (N (U w)) e size (Z (T (Q (N (U w)) 0 Y)) 0 0) 0 [] :=
 ⟨by simp,.inr ⟨N (U w),0,#[],rfl,n6 _,nL _ _,n6 _,E4 _,by simp,by simp⟩⟩
theorem Dj (c:SpcOk S)(i:tg<S.n1){b:List aI}(g:∀y∈b,dk y=ZG)(hl:b.length<=200):ua (S.f1 tg).H (S.f1 tg).f (yL b) b.length=eZ S tg b:=by
 unfold ua;have h:bU (yL b) b.length=ZG:=by
  have:∀k,bU (yL b) k=ZG:=λk=>by
   induction k with
   |zero=>rfl
   |succ k f=>rw[bU,f,GH g k];rfl
  exact this _
 rw[gM (by rw[c.H tg i];simp),gM (by omega),gM (by rw[h];simp)];rfl
theorem FQ (b:SpcOk S)(c:tg<S.n1):∀i,i<(S.f1 tg).f->((S.f1 tg).H i).s.size<=maxLen:=λi hi=>by
 have h1:=gR (bP (b.H tg c)).1 hi;simp only[aH,z8] at h1;obtain⟨i1,i2,i3,i4,i5⟩:=h1;have hmt2:aE ((S.f1 tg).H i).op<=2000:=by unfold aE;split<;>omega
 unfold maxLen;omega
section
variable {w0:M}{S:Spc}{a0 a1:Option Addr}{c0 c1 hb:Nat}{md or st:ZC}{making:List ByteArray}{made:List Ent}{L:List SM}
theorem pB (C:pz w0 S a0 a1)(w:M)(t:ByteArray)(f:Below (N (U w0)) w0 w)(o:hb<N (U w))(j:A w (Q hb 0 Y)=T (Z a0 S.n0 c0))(l:A w (Q hb 1 Y)=T (Z a1 S.n1 c1)):Calls Pg 236 #[.pointer (T (Q hb 0 Y)),.string t] w λe w'=>e=ZF (.bool (kY S t))/\Below (N (U w)) w w':=by
 have r:=ae C;have n:=ae f;have hsm:=C.ok.az;obtain⟨R,hR⟩:∃R,R=kY S t:=⟨_,rfl⟩
 rw[<-hR];have m:Hid (R=((atI (nm0 S.f0) S.n0 t).isSome || (atI (nm1 S.f1) S.n1 t).isSome)):=by show _=_;rw[hR];unfold kY;rw[jh,jh]
 clear C f hR;go_enter func236,ntmps236;go_wp2_with fail;refine(iZ a0 S.n0 c0 a1 S.n1 c1 S.f0 t w (by omega) (r.src.aa n ly)).mono ?_;rintro e s ⟨rfl,b⟩;have y:=(b.cell (p:=(Q hb 0 Y)) o).trans j;have x:=(b.cell (p:=(Q hb 1 Y)) o).trans l;have hl1:hb<N (U s):=lj o b.size;have h:=ae b;clear b j l;cases h0:atI (nm0 S.f0) S.n0 t with
 |some i =>
  have g:=ae h0;clear h0;have u:(0:Int)<=(i:Int):=by omega
  simp only[ej];go_wp2;go_ret;exact⟨by rw[m.out,g.out];rfl,h⟩
 |none =>
  have g:=ae h0;clear h0;simp only[ej];go_wp2_with fail;refine(i8 a0 S.n0 c0 a1 S.n1 c1 S.f1 t s (by omega) (r.R.aa (n.trans (h.mono n.size)) ly)).mono ?_;rintro e w2 ⟨rfl,b⟩;have q:=ae (h.trans (b.mono h.size));clear b y x;cases h1:atI (nm1 S.f1) S.n1 t with
  |some i =>
   have c:=ae h1;clear h1;have u:(0:Int)<=(i:Int):=by omega
   simp only[ej];go_wp2;go_ret;exact⟨by rw[m.out,g.out,c.out];simp,q⟩
  |none =>have c:=ae h1;clear h1;simp only[ej];go_wp2;go_ret;exact⟨by rw[m.out,g.out,c.out];rfl,q⟩
end
