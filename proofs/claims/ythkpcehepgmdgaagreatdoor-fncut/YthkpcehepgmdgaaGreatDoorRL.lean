import Derived.Test.YthkpcehepgmdgaaGreatDoorRA
import Derived.Test.YthkpcehepgmdgaaGreatDoorTA
import Derived.Test.YthkpcehepgmdgaaGreatDoorSK
import Derived.Maps.OwnSet
import Derived.Maps.Views
import Derived.Maps.RangeWalk
import Derived.StringKeys
import Derived.DeepKeys4
set_option maxHeartbeats 2000000
open Go renaming Addr.mk->Q,Value.slice->Z,Value.string->U,Value.int->J,Value.bool->ZC,Value.agg->ZH,Obj.cells->N,IntKind.i64->I,World->G,Value->ZD,TypeId->ZI,Ending.returned->ZG,World.ownsRow->ZU,World.cell?->ZT,Proofs.Tryz.prog->Pg
open Option renaming none->Y,some->T
open Bool renaming false->ZB,true->ZF
open List renaming length->A
namespace Go.Proofs.YthkpcehepgmdgaaGreatDoor.Vp
open Tryz RowKit
variable {w w':G}{b n B size i j C hb tg:Nat}{e:ZI}{X:Nat->Prop}{t sx:ByteArray}{f:List ZD}{s0 s1 md or:ZD}{g:Int}{S:Spc}
def XN:Nat->Prop:=λ_=>False
theorem ai{o:Obj}(h:w.heap[i]?=T o):i<w.heap.size:=by
 rcases MJ i w.heap.size with b|b;{exact b};{rw[MO b] at h;cases h}
theorem aB{f:Array ZD}{t:ZI}(h:w.heap[b]?=T (N f t (0,0)))(v:ZD):(w.setCell (Q b j Y) v).heap[b]?=T (N (f.setIfInBounds j v) t (0,0)):=by simp only[World.setCell,KZ,hU,h,TQ];rfl
def cI (L:List ByteArray):List ZD:=L.map U
theorem ey{v:ZD}(h:ZU w b e size v n f)(hb:∀k,v.ownBlock=T k->w'.heap[k]?=w.heap[k]?):ZU w' b e size v n f:=by
 obtain⟨h1,h2|⟨g,cap,i,rfl,j,m,l⟩⟩:=h;{exact⟨h1,.inl h2⟩};{exact⟨h1,.inr ⟨g,cap,i,rfl,j,(hb g rfl).trans m,l⟩⟩}
theorem aj{v:ZD}{l:List ZD}(h:ZU w b e size v n l):∀k,v.ownBlock=T k->b<=k/\k<w.heap.size/\∃o,w.heap[k]?=T (N o e (0,0)):=by
 intro k f;obtain⟨h1,⟨rfl,_⟩|⟨g,cap,j,rfl,m,i,h5⟩⟩:=h;{cases f}
 ·cases f
  exact⟨m,ai i,j,i⟩
section
variable {w0 w w':G}{S:Spc}{mb mp:Nat}{s0 s1 mk md:ZD}{cnt nk np:Nat}{F:List UInt8->Option ZD}{ks ps:List ZD}{made:List Ent}{ZS:ByteArray->Nat}{V:ByteArray->ZD}
theorem aH{w:G}{f:Nat}{v:ZD}{g:List ZD}(h:ZU w f e size v n g)(hb:v.ownBlock≠T b)(j:Nat)(u:ZD):(w.setCell (Q b j Y) u).ownsRow f e size v n g :=
 ey h λk i=>qh _ _ _ _ λe=>hb (by rw[i];exact CD T e)
theorem au{w:G}{m i:Array ZD}{t j:ZI}{f l:Nat × Nat}(h:w.heap[b]?=T (N m t f))(g:w.heap[b]?=T (N i j l)):t=j:=by rw[h] at g;simp only[KN,Obj.cells.injEq] at g;exact g.2.1
end
open Ca
theorem gR{v:ZD}(h:ZU w b e size v n f):∃a cap,v=Z a n cap:=by
 obtain⟨_,⟨rfl,rfl⟩|⟨g,cap,cur,rfl,_⟩⟩:=h;{exact⟨Y,0,rfl⟩};{exact⟨_,_,rfl⟩}
structure KS (B:Nat)(X:Nat->Prop)(w w':G):Prop where
 aa:Below B w w'
 ab:∀i cs t fz,w.heap[i]?=T (N cs t fz)->t≠9->t≠137->t≠81->¬ X i->w'.heap[i]?=w.heap[i]?
theorem KS.trans{ZK:Nat->Prop}{b:G}(h:KS B X w w')(k:KS B ZK w' b)(j:∀i,i<w.heap.size->ZK i->X i):KS B X w b :=
 ⟨h.aa.trans k.aa,λi g t fz hi h1 h2 f hX=>by
  have e:=h.ab i g t fz hi h1 h2 f hX;rw[<-e]
  exact k.ab i g t fz (e.trans hi) h1 h2 f λl=>hX (j i (ai hi) l)⟩
theorem KS.to{b:G}(h:KS B X w w')(k:KS B XN w' b):KS B X w b:=h.trans k λ_ _ h=>h.elim
theorem KS.q (h:Below C w w')(b:w.heap.size<=C)(f:B<=w.heap.size):KS B X w w' :=
 ⟨h.mono (AD f b),λi _ _ _ hi _ _ _ _=>h.block i (lj (ai hi) b)⟩
theorem KS.of_grown{row:Option Nat}(h:w.grownBy w' row)(l:B<=w.heap.size)(g:∀j,row=T j->B<=j/\(X j∨∀b t fz,w.heap[j]?=T (N b t fz)->t=9∨t=137∨t=81)):KS B X w w':=by
 refine⟨⟨h.os,h.tape,h.output,h.size,λk m=>h.block k (lj m l) λe=>?_⟩,λi b t fz hi h1 h2 n hX=>h.block i (ai hi) λe=>?_⟩;{have:=(g k e.symm).1;omega};{rcases(g i e.symm).2 with f|f;{exact hX f};{rcases f b t fz hi with e|e|e;{exact h1 e};{exact h2 e};{exact n e}}}
theorem KS.setCell (w:G)(hb:B<=b)(f:X b∨∀g t fz,w.heap[b]?=T (N g t fz)->t=9∨t=137∨t=81)(v:ZD):KS B X w (w.setCell (Q b j Y) v):=by
 refine⟨(cM B w).setCell hb v,λi g t fz hi h1 h2 h hX=>?_⟩;refine qh _ _ _ _ λe=>?_;simp at e;subst e;rcases f with f|f;{exact hX f};{rcases f g t fz hi with e|e|e;{exact h1 e};{exact h2 e};{exact h e}}
def ShBox (w:G)(hb:Nat)(s0 s1 md or st:ZD)(f:Int)(sx:ByteArray)(g:ZD)(b:Bool):Prop:=w.heap[hb]?=T (N #[s0,s1,md,or,st,J I f,U sx,g,ZC b] 81 (0,0))
theorem ShBox.R{st f:ZD}{b:Bool}(h:ShBox w hb s0 s1 md or st g sx f b):hb<w.heap.size/\ZT w (Q hb 0 Y)=T s0/\ZT w (Q hb 1 Y)=T s1/\ZT w (Q hb 2 Y)=T md/\ZT w (Q hb 3 Y)=T or/\ZT w (Q hb 4 Y)=T st/\ZT w (Q hb 5 Y)=T (J I g)/\ZT w (Q hb 6 Y)=T (U sx)/\ZT w (Q hb 7 Y)=T f/\ZT w (Q hb 8 Y)=T (ZC b)/\∀j,w.frozen? (Q hb j Y)=ZB:=by unfold ShBox at h;refine⟨ai h,?_,?_,?_,?_,?_,?_,?_,?_,?_,λj=>?_⟩;all_goals simp[World.cell?,World.frozen?,h]
theorem ShBox.ab{st f:ZD}{b:Bool}(h:ShBox w hb s0 s1 md or st g sx f b)(i:w'.heap[hb]?=w.heap[hb]?):ShBox w' hb s0 s1 md or st g sx f b:=i.trans h
structure SM where
 e:ByteArray
 E:Int
 B:ByteArray
 V:List Lk
 sv:ZD
 done:Bool
def smV (m:SM):List ZD:=[U m.e,J I m.E,U m.B,Z Y 0 0,m.sv,ZC m.done]
def er (b:List Lk):List ZD:=b.flatMap λl=>[U l.e,ZC l.ask,ZC l.has]
def fI (L:List SM)(t:ByteArray):Option Nat:=L.findIdx? λm=>m.e.toList == t.toList
structure fx (L:List SM)(making:List ByteArray)(made:List Ent):Prop where
 nod:L.Pairwise λm m'=>m.e≠m'.e
 len:A L=A made+A making
 got:∀x∈made,∃m∈L,m.e=x.e/\m.done=ZF/\m.E=(dK x).E/\m.B=(dK x).B/\m.V=x.D
 mkg:∀t∈making,∃m∈L,m.e=t/\m.done=ZB
 all:∀m∈L,(∃x∈made,x.e=m.e)∨m.e∈making
structure SI (w0:G)(hb:Nat)(s0 s1:ZD)(w:G)(making:List ByteArray)(made:List Ent)(L:List SM)(md or st:ZD):Prop where
 az:Below w0.heap.size w0 w
 hbB:w0.heap.size<=hb
 M:ShBox w hb s0 s1 md or st 0 ⟨#[]⟩ (Z Y 0 0) ZB
 ao:ZU w w0.heap.size 137 6 md (A L) (L.flatMap smV)
 ror:ZU w w0.heap.size 9 1 or (A made) (cI (made.map (·.e)))
 rst:ZU w w0.heap.size 9 1 st (A making) (cI making)
 apart:∀k,or.ownBlock=T k->st.ownBlock≠T k
 V:∀m∈L,m.done=ZF->ZU w w0.heap.size 140 3 m.sv (A m.V) (er m.V)
section
variable {w0 w w':G}{hb:Nat}{s0 s1 md or st:ZD}{making:List ByteArray}{made:List Ent}{L:List SM}
theorem SI.lt (h:SI w0 hb s0 s1 w making made L md or st):w0.heap.size<=w.heap.size:=h.az.size
theorem SI.aa (h:SI w0 hb s0 s1 w making made L md or st)(b:Below C w w')(f:w.heap.size<=C):SI w0 hb s0 s1 w' making made L md or st :=
 ⟨h.az.trans (b.mono (AD h.lt f)),h.hbB,h.M.ab (b.block _ (lj (ai h.M) f)),own_below h.ao b f,own_below h.ror b f,own_below h.rst b f,h.apart,λm g i=>own_below (h.V m g i) b f⟩
end
def ee:Option Nat->Int
 |some i=>(i:Int)
 |none=>-1
theorem iI (g:Nat->ByteArray)(n:Nat)(t:ByteArray):aG g n t=(atI g n t).isSome:=by unfold aG atI;rw[MF,List.find?_isSome,SH]
theorem uC{g:Nat->ByteArray}(h:aG g n t=ZB):atI g n t=Y:=by rw[iI] at h;exact Option.isNone_iff_eq_none.1 (by simpa using h)
theorem rJ{g:Nat->ByteArray}{k:Nat}(b:k<n)(h1:((g k).toList == t.toList)=ZF)(h2:aG g k t=ZB):atI g n t=T k:=by
 unfold atI;rw[List.find?_range_eq_some];refine⟨h1,KT.2 b,λj f=>?_⟩;cases e:((g j).toList == t.toList) with
 |false=>rfl
 |true =>rw[eC f e] at h2;cases h2
theorem qE (b off n0 c0:Nat)(a1:Option Addr)(n1 c1:Nat)(f:Nat->Source)(t:ByteArray)(w:G)(hn:(n0:Int)<=1048576)(o:RowSource w b off n0 f):Calls Pg 31 #[ZH #[Z (T (Q b off Y)) n0 c0,Z a1 n1 c1],U t] w λe w'=>e=ZG (J I (ee (atI (nm0 f) n0 t)))/\Below w.heap.size w w':=by
 obtain⟨W,g⟩:∃W:G,w.alloc (N #[Z (T (Q b off Y)) n0 c0,Z a1 n1 c1] 33)=W:=⟨_,rfl⟩
 obtain⟨n,-,-⟩:=nb1 g;have h:=ae g;clear g;have q:=ae (o.aa n ly);have k1:ZT W (Q w.heap.size 0 Y)=T (Z (T (Q b off Y)) n0 c0):=by rw[<-h.out];simp
 clear o;obtain⟨R,hR⟩:∃R,R=ee (atI (nm0 f) n0 t):=⟨_,rfl⟩
 rw[<-hR];have p:=ae hR;clear hR;go_enter TI,RJ;go_wp2;rw[h.out];clear h;go_loop [5] (λi=>∃k:Nat,k<=n0/\i=J I k/\Hid (aG (nm0 f) k t=ZB)) (λi=>n0 - (intOf i).toNat);case atStart=>exact⟨0,by omega,rfl,rfl⟩
 case round =>
  obtain⟨k,hk,rfl,m⟩:=hrel;by_cases j:k<n0
  ·obtain⟨d0,d1⟩:=q.2 k j;cases hb:((f k).e.toList == t.toList) with
   |true =>have l:=ae hb;go_wp2;go_ret;exact⟨by rw[p.out,rJ j l.out m.out];rfl,n⟩
   |false =>have l:=ae hb;go_wp2;exact⟨⟨k+1,by omega,by go_num,by show aG (nm0 f) (k+1) t=ZB;rw[gw,m.out];exact l⟩,by simp[intOf];omega⟩
  ·have e:k=n0:=by omega
   subst e;go_wp2;go_ret;exact⟨by rw[p.out,uC m.out];rfl,n⟩
theorem qF (a0:Option Addr)(c0:Nat)(a1:Option Addr)(n1 c1:Nat)(t:ByteArray)(w:G):Calls Pg 31 #[ZH #[Z a0 0 c0,Z a1 n1 c1],U t] w λe w'=>e=ZG (J I (-1))/\Below w.heap.size w w':=by
 have b:=ae ((q9 w).alloc ly (N #[Z a0 0 c0,Z a1 n1 c1] 33));go_enter TI,RJ;go_wp2;go_loop [5] (λi=>i=J I 0) (λ_=>0);case atStart=>rfl
 case round =>subst hrel;go_wp2;go_ret;exact⟨rfl,b⟩
theorem iu (a0:Option Addr)(n0 c0:Nat)(a1:Option Addr)(n1 c1:Nat)(f:Nat->Source)(t:ByteArray)(w:G)(hn:(n0:Int)<=1048576)(g:SlSource w a0 n0 f):Calls Pg 31 #[ZH #[Z a0 n0 c0,Z a1 n1 c1],U t] w λe w'=>e=ZG (J I (ee (atI (nm0 f) n0 t)))/\Below w.heap.size w w':=by
 rcases g with rfl|⟨b,off,rfl,h⟩
 {exact qF a0 c0 a1 n1 c1 t w};{exact qE b off n0 c0 a1 n1 c1 f t w hn h}
theorem qG (a0:Option Addr)(n0 c0 b off n1 c1:Nat)(f:Nat->Target)(t:ByteArray)(w:G)(hn:(n1:Int)<=1048576)(o:RowTarget w b off n1 f):Calls Pg 32 #[ZH #[Z a0 n0 c0,Z (T (Q b off Y)) n1 c1],U t] w λe w'=>e=ZG (J I (ee (atI (nm1 f) n1 t)))/\Below w.heap.size w w':=by
 obtain⟨W,g⟩:∃W:G,w.alloc (N #[Z a0 n0 c0,Z (T (Q b off Y)) n1 c1] 33)=W:=⟨_,rfl⟩
 obtain⟨n,-,-⟩:=nb1 g;have h:=ae g;clear g;have q:=ae (o.aa n ly);have k1:ZT W (Q w.heap.size 1 Y)=T (Z (T (Q b off Y)) n1 c1):=by rw[<-h.out];simp
 clear o;obtain⟨R,hR⟩:∃R,R=ee (atI (nm1 f) n1 t):=⟨_,rfl⟩
 rw[<-hR];have p:=ae hR;clear hR;go_enter TH,RI;go_wp2;rw[h.out];clear h;go_loop [5] (λi=>∃k:Nat,k<=n1/\i=J I k/\Hid (aG (nm1 f) k t=ZB)) (λi=>n1 - (intOf i).toNat);case atStart=>exact⟨0,by omega,rfl,rfl⟩
 case round =>
  obtain⟨k,hk,rfl,m⟩:=hrel;by_cases j:k<n1
  ·obtain⟨d0,ka,kc,d1,_⟩:=q.2 k j;cases hb:((f k).e.toList == t.toList) with
   |true =>have l:=ae hb;go_wp2;go_ret;exact⟨by rw[p.out,rJ j l.out m.out];rfl,n⟩
   |false =>have l:=ae hb;go_wp2;exact⟨⟨k+1,by omega,by go_num,by show aG (nm1 f) (k+1) t=ZB;rw[gw,m.out];exact l⟩,by simp[intOf];omega⟩
  ·have e:k=n1:=by omega
   subst e;go_wp2;go_ret;exact⟨by rw[p.out,uC m.out];rfl,n⟩
theorem qH (a0:Option Addr)(n0 c0:Nat)(a1:Option Addr)(c1:Nat)(t:ByteArray)(w:G):Calls Pg 32 #[ZH #[Z a0 n0 c0,Z a1 0 c1],U t] w λe w'=>e=ZG (J I (-1))/\Below w.heap.size w w':=by
 have b:=ae ((q9 w).alloc ly (N #[Z a0 n0 c0,Z a1 0 c1] 33));go_enter TH,RI;go_wp2;go_loop [5] (λi=>i=J I 0) (λ_=>0);case atStart=>rfl
 case round =>subst hrel;go_wp2;go_ret;exact⟨rfl,b⟩
theorem iv (a0:Option Addr)(n0 c0:Nat)(a1:Option Addr)(n1 c1:Nat)(f:Nat->Target)(t:ByteArray)(w:G)(hn:(n1:Int)<=1048576)(g:SlTarget w a1 n1 f):Calls Pg 32 #[ZH #[Z a0 n0 c0,Z a1 n1 c1],U t] w λe w'=>e=ZG (J I (ee (atI (nm1 f) n1 t)))/\Below w.heap.size w w':=by
 rcases g with rfl|⟨b,off,rfl,h⟩
 {exact qH a0 n0 c0 a1 c1 t w};{exact qG a0 n0 c0 b off n1 c1 f t w hn h}
theorem nC (m:SM):(smV m).length=6:=rfl
theorem cB{g cap:Nat}{L:List SM}(h:ZU w b 137 6 (Z (T (Q g 0 Y)) (A L) cap) (A L) (L.flatMap smV)){m:SM}(f:L[i]?=T m)(j:Nat)(l:j<6){u:ZD}(n:(smV m)[j]?=T u):ZT w (Q g (i*6+j) Y)=T u:=by have h1:=h.cells (g:=g) rfl (i*6+j) u (by rw[cL smV 6 nC L i j l m f];exact n);rw[addr_add,E4] at h1;exact h1
theorem uD{L:List SM}{k:Nat}{m:SM}(b:L[k]?=T m)(h1:(m.e.toList == t.toList)=ZF)(h2:∀(j:Nat) (m:SM),j<k->L[j]?=T m->(m.e.toList == t.toList)=ZB):fI L t=T k:=by have f:=(j2.1 b).1;have g:=(j2.1 b).2;unfold fI;rw[NY];refine⟨f,by rw[g];exact h1,λj h=>?_⟩;rw[Bool.not_eq_true];exact h2 j _ h (gq (by omega))
theorem wY{L:List SM}(h2:∀(j:Nat) (m:SM),j<A L->L[j]?=T m->(m.e.toList == t.toList)=ZB):fI L t=Y:=by unfold fI;rw[N5];intro m f;obtain⟨j,b⟩:=ME f;exact h2 j m (j2.1 b).1 b
section
variable {w0:G}{hb:Nat}{s0 s1 md or st:ZD}{making:List ByteArray}{made:List Ent}{L:List SM}
theorem uE (w:G)(t:ByteArray)(s:Nat)(c2:ZT w (Q hb 2 Y)=T md)(f:ZU w s 137 6 md (A L) (L.flatMap smV))(hL:A L<=100000):Calls Pg 76 #[.pointer (T (Q hb 0 Y)),U t] w λe w'=>e=ZG (J I (ee (fI L t)))/\w'=w:=by
 obtain⟨R,hR⟩:∃R,R=ee (fI L t):=⟨_,rfl⟩
 rw[<-hR];have x:=ae hR;have o:=ae f;obtain⟨a,c,rfl⟩:∃a c,md=Z a (A L) c:=by
  obtain⟨_,⟨rfl,e⟩|⟨g,cap,z,rfl,_⟩⟩:=f;{exact⟨Y,0,by rw[e]⟩};{exact⟨_,_,rfl⟩}
 obtain⟨n,hn⟩:∃n,n=A L:=⟨_,rfl⟩
 have p:=ae hn;rw[<-hn] at c2 hL;clear f hR hn;go_enter func76,ntmps76;go_wp2;go_loop [5] (λi=>∃k:Nat,k<=n/\i=J I k/\Hid (∀(j:Nat) (m:SM),j<k->L[j]?=T m->(m.e.toList == t.toList)=ZB)) (λi=>n - (intOf i).toNat);case atStart=>exact⟨0,by omega,rfl,λj m u=>absurd u (IT _)⟩
 case round =>
  obtain⟨k,hk,rfl,r⟩:=hrel;by_cases hlt:k<n
  ·obtain⟨m,b⟩:∃m,L[k]?=T m:=⟨_,gq (by have:=p.out;omega)⟩
   obtain⟨g,cap,z,e,-⟩:=o.2.resolve_left (λh=>by have:=p.out;omega);simp only[KU,TG] at e;obtain⟨rfl,rfl⟩:=e;have d0:ZT w (Q g (k*6) Y)=T (U m.e):=cB o b 0 (by omega) rfl;have y:=ae b;have hI:(k:Int)<(n:Int):=by omega
   clear b;cases hb2:(m.e.toList == t.toList) with
   |true =>have q:=ae hb2;go_wp2;go_ret;exact⟨by rw[x.out,uD y.out q.out r.out];rfl,rfl⟩
   |false =>
    have q:=ae hb2;go_wp2;refine⟨⟨k+1,by omega,by go_num,λj ZV u l=>?_⟩,by simp[intOf];omega⟩;by_cases e:j=k;{subst e;rw[y.out] at l;cases l;exact q};{exact r j ZV (by omega) l}
  ·have e:k=n:=by omega
   subst e;go_wp2;go_ret;exact⟨by rw[x.out,wY (λj m u b=>r.out j m (by have:=p.out;omega) b)];rfl,rfl⟩
theorem oQ (w:G)(t:ByteArray)(h:SI w0 hb s0 s1 w making made L md or st)(hL:A L<=100000):Calls Pg 76 #[.pointer (T (Q hb 0 Y)),U t] w λe w'=>e=ZG (J I (ee (fI L t)))/\w'=w:=by obtain⟨-,-,-,c2,-⟩:=h.M.R;exact uE w t w0.heap.size c2 h.ao hL
end
structure oR (w0:G)(S:Spc)(a0:Option Addr)(a1:Option Addr):Prop where
 src:SlSource w0 a0 S.n0 S.f0
 w:SlTarget w0 a1 S.n1 S.f1
 ok:SpcOk S
def iJ (w0:G)(hb:Nat)(w':G)(r:jZ)(b:ZD):Prop:=∃s0 s1 md or st,ShBox w' hb s0 s1 md or st r.E r.B b ZF/\ZU w' w0.heap.size 9 1 b (A r.chain) (cI r.chain)
structure LExt (n:Nat)(L L':List SM):Prop where
 nam:∀(i:Nat) (m:SM),L[i]?=T m->∃m':SM,L'[i]?=T m'/\m'.e=m.e
 sn:∀m∈L',m.done=ZF->(∃m0∈L,m0.done=ZF/\m0.sv=m.sv)∨∀k,m.sv.ownBlock=T k->n<=k
theorem LExt.refl (n:Nat)(L:List SM):LExt n L L:=⟨λ_ m h=>⟨m,h,rfl⟩,λm b f=>.inl ⟨m,b,f,rfl⟩⟩
theorem LExt.trans{r:Nat}{L p b:List SM}(h:LExt n L p)(k:LExt r p b)(hn:n<=r):LExt n L b:=by
 refine⟨λi m g=>?_,λm g t=>?_⟩;{obtain⟨l,h1,j⟩:=h.nam i m g;obtain⟨x,h2,u⟩:=k.nam i l h1;exact⟨x,h2,u.trans j⟩};{rcases k.sn m g t with ⟨m0,s,o,e⟩|h1;{rcases h.sn m0 s o with ⟨l,h1,q,j⟩|h1;{exact .inl ⟨l,h1,q,j.trans e⟩};{exact .inr λk f=>h1 k (by rw[e];exact f)}};{exact .inr λk f=>AD hn (h1 k f)}}
def i8 (c:List ByteArray):jZ:=⟨6,⟨#[]⟩,c⟩
def ja (d:ByteArray):jZ:=⟨7,d,[]⟩
def iP (r:jZ)(b:ZD):ZD:=ZH #[J I r.E,U r.B,b]
def lO (w0:G)(hb:Nat)(s0 s1:ZD)(making:List ByteArray)(L:List SM)(w:G)(e:Ending)(w':G):Out Ent->Prop
 |.inl (made',x)=>∃b g f h,e=ZG (ZH #[J I (dK x).E,U (dK x).B,Z Y 0 0])/\SI w0 hb s0 s1 w' making made' b g f h/\fx b making made'/\LExt w.heap.size L b/\KS w0.heap.size XN w w'
 |.inr (.inl c)=>∃a k,e=ZG (iP (i8 c) (Z a (A c) k))/\iJ w0 hb w' (i8 c) (Z a (A c) k)/\KS w0.heap.size XN w w'
 |.inr (.inr d)=>e=ZG (iP (ja d) (Z Y 0 0))/\iJ w0 hb w' (ja d) (Z Y 0 0)/\KS w0.heap.size XN w w'
def eX (S:Spc)(making:List ByteArray)(made:List Ent)(k:Nat):Prop:=A made+201*ed S making made+k<=50000
def MT (S:Spc)(making:List ByteArray):Prop:=∀t∈making,(atI (nm1 S.f1) S.n1 t).isSome=ZF
def mR (w0:G)(S:Spc)(hb:Nat)(s0 s1:ZD)(n:Nat):Prop:=∀making made L md or st w nm,A making+n=60->SI w0 hb s0 s1 w making made L md or st->fx L making made->PG S making made->eX S making made 1->MT S making->av nm=ZF ->
 Calls Pg 75 #[.pointer (T (Q hb 0 Y)),U nm] w λe w'=>lO w0 hb s0 s1 making L w e w' (aL S n making made nm)
theorem kG{z:ZD}{a:Nat}(h:(Pg.info? e).map (λi=>(i.zero,i.size,i.bytes))=T (T z,a,b)):∃i,Pg.info? e=T i/\i.zero=T z/\i.size=a/\i.bytes=b:=by
 cases hi:Pg.info? e with
 |none=>rw[hi] at h;cases h
 |some i =>rw[hi] at h;simp only[TQ,KN,KJ] at h;exact⟨i,rfl,h⟩
theorem oS:(Pg.info? 9).map (λi=>(i.zero,i.size,i.bytes))=T (T (U ⟨#[]⟩),1,16):=by kernel_rfl
theorem yO:(Pg.info? 125).map (λi=>(i.zero,i.size,i.bytes))=T (T (ZH #[ZC ZB,J I 0,U ⟨#[]⟩]),3,32):=by kernel_rfl
theorem Dn:(Pg.info? 140).map (λi=>(i.zero,i.size,i.bytes))=T (T (ZH #[U ⟨#[]⟩,ZC ZB,ZC ZB]),3,24):=by kernel_rfl
theorem Do:(Pg.info? 137).map (λi=>(i.zero,i.size,i.bytes))=T (T (ZH #[U ⟨#[]⟩,J I 0,U ⟨#[]⟩,Z Y 0 0,Z Y 0 0,ZC ZB]),6,96):=by kernel_rfl
def lP (b:List ay):List ZD:=b.flatMap λr=>[ZC r.has,J I r.E,U r.B]
theorem Dp (b:List ay)(r:ay):lP (b++[r])=lP b++[ZC r.has,J I r.E,U r.B]:=by simp[lP]
theorem Ax (b:List Lk)(l:Lk):er (b++[l])=er b++[U l.e,ZC l.ask,ZC l.has]:=by simp[er]
theorem Ft{l g c:Nat}{b:List ay}(h:ZU w l 125 3 (Z (T (Q g 0 Y)) (A b) c) (A b) (lP b)):RowReply w g 0 (A b) (yL b):=by
 obtain⟨_,m,cs,hc⟩:=aj h g rfl;refine⟨m,λi hi=>?_⟩;have n:b[i]?=T (yL b i):=by simp[yL,gq hi]
 have f:∀j u,j<3->([Value.bool (yL b i).has,J I (yL b i).E,U (yL b i).B]:List ZD)[j]?=T u->ZT w (Q g (i*3+j) Y)=T u:=λj u o p=>by have h1:=h.cells (g:=g) rfl (i*3+j) u (by rw[lP,cL (λr:ay=>[ZC r.has,J I r.E,U r.B]) 3 (λ_=>rfl) b i j o _ n];exact p);rw[addr_add,E4] at h1;exact h1
 refine⟨?_,?_,?_⟩;{rw[E4];exact f 0 _ (by omega) rfl};{rw[E4];exact f 1 _ (by omega) rfl};{rw[E4];exact f 2 _ (by omega) rfl}
theorem nE (w:G)(e:ZI)(size:Nat):(w.alloc (N #[] e)).ownsRow w.heap.size e size (Z (T (Q w.heap.size 0 Y)) 0 0) 0 [] :=
 ⟨by simp,.inr ⟨w.heap.size,0,#[],rfl,j6 _,nD _ _,j6 _,DN _,by simp,by simp⟩⟩
theorem Ay (h:SpcOk S)(j:tg<S.n1){b:List ay}(i:∀y∈b,cy y=ZF)(hl:A b<=200):nr (S.f1 tg).u (S.f1 tg).l (yL b) (A b)=bH S tg b:=by
 unfold nr;have f:bP (yL b) (A b)=ZF:=by
  have:∀k,bP (yL b) k=ZF:=λk=>by
   induction k with
   |zero=>rfl
   |succ k g=>rw[bP,g,Ej i k];rfl
  exact this _
 rw[eT (by rw[h.u tg j];simp),eT (by omega),eT (by rw[f];simp)];rfl
theorem Dq (b:SpcOk S)(f:tg<S.n1):∀i,i<(S.f1 tg).l->((S.f1 tg).u i).s.size<=maxLen:=λi hi=>by
 have h1:=jC (bO (b.u tg f)).1 hi;simp only[cF,nX] at h1;obtain⟨i1,i2,i3,i4,i5⟩:=h1;have hmt2:bR ((S.f1 tg).u i).op<=2000:=by unfold bR;split<;>omega
 unfold maxLen;omega
section
variable {w0:G}{S:Spc}{a0 a1:Option Addr}{c0 c1 hb:Nat}{md or st:ZD}{making:List ByteArray}{made:List Ent}{L:List SM}
theorem oT (C:oR w0 S a0 a1)(w:G)(t:ByteArray)(f:Below w0.heap.size w0 w)(o:hb<w.heap.size)(l:ZT w (Q hb 0 Y)=T (Z a0 S.n0 c0))(m:ZT w (Q hb 1 Y)=T (Z a1 S.n1 c1)):Calls Pg 138 #[.pointer (T (Q hb 0 Y)),U t] w λe w'=>e=ZG (ZC (fX S t))/\Below w.heap.size w w':=by
 have u:=ae C;have q:=ae f;have hsm:=C.ok.bh;obtain⟨R,hR⟩:∃R,R=fX S t:=⟨_,rfl⟩
 rw[<-hR];have n:Hid (R=((atI (nm0 S.f0) S.n0 t).isSome || (atI (nm1 S.f1) S.n1 t).isSome)):=by show _=_;rw[hR];unfold fX;rw[iI,iI]
 clear C f hR;go_enter func138,ntmps138;go_wp2_with fail;refine(iu a0 S.n0 c0 a1 S.n1 c1 S.f0 t w (by omega) (u.src.aa q ly)).mono ?_;rintro e r ⟨rfl,b⟩;have y:=(b.cell (p:=(Q hb 0 Y)) o).trans l;have z:=(b.cell (p:=(Q hb 1 Y)) o).trans m;have hl1:hb<r.heap.size:=lj o b.size;have j:=ae b;clear b l m;cases h0:atI (nm0 S.f0) S.n0 t with
 |some i =>
  have h:=ae h0;clear h0;have x:(0:Int)<=(i:Int):=by omega
  simp only[ee];go_wp2;go_ret;exact⟨by rw[n.out,h.out];rfl,j⟩
 |none =>
  have h:=ae h0;clear h0;simp only[ee];go_wp2_with fail;refine(iv a0 S.n0 c0 a1 S.n1 c1 S.f1 t r (by omega) (u.w.aa (q.trans (j.mono q.size)) ly)).mono ?_;rintro e w2 ⟨rfl,b⟩;have s:=ae (j.trans (b.mono j.size));clear b y z;cases h1:atI (nm1 S.f1) S.n1 t with
  |some i =>
   have g:=ae h1;clear h1;have x:(0:Int)<=(i:Int):=by omega
   simp only[ee];go_wp2;go_ret;exact⟨by rw[n.out,h.out,g.out];simp,s⟩
  |none =>have g:=ae h1;clear h1;simp only[ee];go_wp2;go_ret;exact⟨by rw[n.out,h.out,g.out];rfl,s⟩
end
