import Derived.Test.YtamacmnikdejeaaGreatDoorXA
import Derived.Test.YtamacmnikdejeaaGreatDoorZA
import Derived.Test.YtamacmnikdejeaaGreatDoorYS
import Derived.Test.YtamacmnikdejeaaGreatDoorYA
set_option maxHeartbeats 2000000
open Go.Addr renaming mk->T
open Go.Value renaming slice->Y,string->U,int->I,bool->QT,agg->QV
open Option renaming none->Z,some->N
open Go.Obj renaming cells->Q
open Go.IntKind renaming i64->J
open Go renaming World->H,Value->QS
open Bool renaming false->QQ,true->QR
open Go.Ending renaming returned->QU
namespace Go.Proofs.YtamacmnikdejeaaGreatDoor.Vp
open RowKit
structure KX (B:Nat)(X:Nat->Prop)(w w':H):Prop where
 below:Below B w w'
 blk:∀ i cs t fz,w.heap[i]?=N (Q cs t fz)->t≠9->t≠134->t≠196->¬ X i->w'.heap[i]?=w.heap[i]?
def XN:Nat->Prop:=fun _=>False
theorem ah {w:H}{i:Nat}{o:Obj}(h:w.heap[i]?=N o):i<w.heap.size:=by
 rcases KP i w.heap.size with b | b
 ·exact b
 ·rw[MD b] at h;cases h
theorem aB {w:H}{b j:Nat}{c:Array QS}{t:TypeId}(h:w.heap[b]?=N (Q c t (0,0)))(v:QS):(w.setCell (T b j Z) v).heap[b]?=N (Q (c.setIfInBounds j v) t (0,0)):=by simp only[World.setCell,JR,gA,h,PV];rfl
def cu (L:List ByteArray):List QS:=L.map U
theorem dx {w w':H}{b size n:Nat}{e:TypeId}{v:QS}{f:List QS}(h:w.ownsRow b e size v n f)(hb:∀ k,v.ownBlock=N k->w'.heap[k]?=w.heap[k]?):w'.ownsRow b e size v n f:=by
 obtain⟨h1,h2 | ⟨g,cap,c,rfl,i,l,j⟩⟩:=h
 ·exact⟨h1,.inl h2⟩
 ·exact⟨h1,.inr ⟨g,cap,c,rfl,i,(hb g rfl).trans l,j⟩⟩
theorem ar {w:H}{b size n:Nat}{e:TypeId}{v:QS}{m:List QS}(h:w.ownsRow b e size v n m):∀ k,v.ownBlock=N k->b<=k/\k<w.heap.size/\∃ l,w.heap[k]?=N (Q l e (0,0)):=by
 intro k c;obtain⟨h1,⟨rfl,_⟩ | ⟨g,cap,i,rfl,j,f,h5⟩⟩:=h
 ·cases c
 ·cases c
  exact⟨j,ah f,i,f⟩
section
variable {w0 w w':H}{S:Spc}{mb mp:Nat}{s0 s1 mk md:QS}{cnt nk np:Nat}{F:List UInt8->Option QS}{ks ps:List QS}{made:List Ent}{G:ByteArray->Nat}{V:ByteArray->QS}
theorem aA {w:H}{c size n b:Nat}{e:TypeId}{v:QS}{f:List QS}(h:w.ownsRow c e size v n f)(hb:v.ownBlock≠N b)(j:Nat)(u:QS):(w.setCell (T b j Z) u).ownsRow c e size v n f :=
 dx h fun k g=>qh _ _ _ _ fun e=>hb (by rw[g];exact JN N e)
theorem au {w:H}{b:Nat}{j i:Array QS}{t g:TypeId}{f l:Nat × Nat}(h:w.heap[b]?=N (Q j t f))(c:w.heap[b]?=N (Q i g l)):t=g:=by rw[h] at c;simp only[JL,Obj.cells.injEq] at c;exact c.2.1
end
section
variable {w0:H}{S:Spc}{mb mp:Nat}{s0 s1 mk md:QS}{mm making:List ByteArray}{made:List Ent}{G:ByteArray->Nat}{V:ByteArray->QS}
end
section
variable {w0 w:H}{S:Spc}{mb mp:Nat}{s0 s1 mk md:QS}{mm making:List ByteArray}{made:List Ent}{G:ByteArray->Nat}{V:ByteArray->QS}
end
section
variable {w0 w:H}{S:Spc}{mb mp:Nat}{s0 s1 mk md:QS}{cnt nk np:Nat}{F:List UInt8->Option QS}{ks ps:List QS}{made:List Ent}{G:ByteArray->Nat}{V:ByteArray->QS}
end
end Go.Proofs.YtamacmnikdejeaaGreatDoor.Vp
namespace Go.Proofs.YtamacmnikdejeaaGreatDoor.Vp
open RowKit Ca
theorem eO {w:H}{b size n:Nat}{e:TypeId}{v:QS}{c:List QS}(h:w.ownsRow b e size v n c):∃ a cap,v=Y a n cap:=by
 obtain⟨_,⟨rfl,rfl⟩ | ⟨g,cap,cur,rfl,_⟩⟩:=h
 ·exact⟨Z,0,rfl⟩
 ·exact⟨_,_,rfl⟩
section
variable {w0:H}{S:Spc}{a0 a1:Option Addr}{c0 c1 mb mp:Nat}{mk md:QS}{making:List ByteArray}{made:List Ent}{G:ByteArray->Nat}{V:ByteArray->QS}
end
end Go.Proofs.YtamacmnikdejeaaGreatDoor.Vp
namespace Go.Proofs.YtamacmnikdejeaaGreatDoor.Vp
open RowKit
section
variable {w0 w w':H}{S:Spc}{mb mp:Nat}{s0 s1 mk md:QS}{cnt nk np:Nat}{F:List UInt8->Option QS}{ks ps:List QS}{made:List Ent}{G:ByteArray->Nat}{V:ByteArray->QS}
end
end Go.Proofs.YtamacmnikdejeaaGreatDoor.Vp
namespace Go.Proofs.YtamacmnikdejeaaGreatDoor.Vp
open RowKit Ca
section
variable {w0:H}{S:Spc}{a0 a1:Option Addr}{c0 c1 mb mp:Nat}{making:List ByteArray}
end
end Go.Proofs.YtamacmnikdejeaaGreatDoor.Vp
namespace Go.Proofs.YtamacmnikdejeaaGreatDoor.Vp
open RowKit
structure KS (B:Nat)(X:Nat->Prop)(w w':H):Prop where
 below:Below B w w'
 blk:∀ i cs t fz,w.heap[i]?=N (Q cs t fz)->t≠9->t≠161->t≠89->¬ X i->w'.heap[i]?=w.heap[i]?
theorem KS.trans {B:Nat}{X QW:Nat->Prop}{w w' b:H}(h:KS B X w w')(k:KS B QW w' b)(f:∀ i,i<w.heap.size->QW i->X i):KS B X w b :=
 ⟨h.below.trans k.below,fun i g t fz hi h1 h2 c hX=>by
  have e:=h.blk i g t fz hi h1 h2 c hX;rw[<-e]
  exact k.blk i g t fz (e.trans hi) h1 h2 c fun j=>hX (f i (ah hi) j)⟩
theorem KS.to {B:Nat}{w w' b:H}{X:Nat->Prop}(h:KS B X w w')(k:KS B XN w' b):KS B X w b:=h.trans k fun _ _ h=>h.elim
theorem KS.of_below {B C:Nat}{X:Nat->Prop}{w w':H}(h:Below C w w')(b:w.heap.size<=C)(c:B<=w.heap.size):KS B X w w' :=
 ⟨h.mono (j4 c b),fun i _ _ _ hi _ _ _ _=>h.block i (lj (ah hi) b)⟩
theorem KS.of_grown {B:Nat}{X:Nat->Prop}{row:Option Nat}{w w':H}(h:w.grownBy w' row)(m:B<=w.heap.size)(f:∀ j,row=N j->B<=j/\(X j∨∀ c t fz,w.heap[j]?=N (Q c t fz)->t=9∨t=161∨t=89)):KS B X w w':=by
 refine⟨⟨h.os,h.tape,h.output,h.size,fun k l=>h.block k (lj l m) fun e=>?_⟩,fun i c t fz hi h1 h2 g hX=>h.block i (ah hi) fun e=>?_⟩
 ·have:=(f k e.symm).1
  omega
 ·rcases(f i e.symm).2 with b | b
  ·exact hX b
  ·rcases b c t fz hi with e | e | e
   ·exact h1 e
   ·exact h2 e
   ·exact g e
theorem KS.setCell {B:Nat}{X:Nat->Prop}(w:H){b j:Nat}(hb:B<=b)(c:X b∨∀ f t fz,w.heap[b]?=N (Q f t fz)->t=9∨t=161∨t=89)(v:QS):KS B X w (w.setCell (T b j Z) v):=by
 refine⟨(eL B w).setCell hb v,fun i f t fz hi h1 h2 g hX=>?_⟩;refine qh _ _ _ _ fun e=>?_;simp at e;subst e;rcases c with c | c
 ·exact hX c
 ·rcases c f t fz hi with e | e | e
  ·exact h1 e
  ·exact h2 e
  ·exact g e
def ShBox (w:H)(hb:Nat)(s0 s1 md or st:QS)(c:Int)(sx:ByteArray)(f:QS)(b:Bool):Prop:=w.heap[hb]?=N (Q #[s0,s1,md,or,st,I J c,U sx,f,QT b] 89 (0,0))
theorem ShBox.facts {w:H}{hb:Nat}{s0 s1 md or st c:QS}{f:Int}{sx:ByteArray}{b:Bool}(h:ShBox w hb s0 s1 md or st f sx c b):hb<w.heap.size/\w.cell? (T hb 0 Z)=N s0/\w.cell? (T hb 1 Z)=N s1/\w.cell? (T hb 2 Z)=N md/\w.cell? (T hb 3 Z)=N or/\w.cell? (T hb 4 Z)=N st/\w.cell? (T hb 5 Z)=N (I J f)/\w.cell? (T hb 6 Z)=N (U sx)/\w.cell? (T hb 7 Z)=N c/\w.cell? (T hb 8 Z)=N (QT b)/\∀ j,w.frozen? (T hb j Z)=QQ:=by unfold ShBox at h;refine⟨ah h,?_,?_,?_,?_,?_,?_,?_,?_,?_,fun j=>?_⟩;all_goals simp[World.cell?,World.frozen?,h]
theorem ShBox.blk {w w':H}{hb:Nat}{s0 s1 md or st f:QS}{g:Int}{sx:ByteArray}{b:Bool}(h:ShBox w hb s0 s1 md or st g sx f b)(c:w'.heap[hb]?=w.heap[hb]?):ShBox w' hb s0 s1 md or st g sx f b:=c.trans h
structure SM where
 name:ByteArray
 code:Int
 text:ByteArray
 seen:List Lk
 sv:QS
 done:Bool
def smV (m:SM):List QS:=[U m.name,I J m.code,U m.text,Y Z 0 0,m.sv,QT m.done]
def eB (b:List Lk):List QS:=b.flatMap fun l=>[U l.name,QT l.ask,QT l.has]
def fI (L:List SM)(t:ByteArray):Option Nat:=L.findIdx? fun m=>m.name.toList == t.toList
structure fA (L:List SM)(making:List ByteArray)(made:List Ent):Prop where
 nod:L.Pairwise fun m m'=>m.name≠m'.name
 len:L.length=made.length+making.length
 got:∀ x∈made,∃ m∈L,m.name=x.name/\m.done=QR/\m.code=(dK x).code/\m.text=(dK x).text/\m.seen=x.looks
 mkg:∀ t∈making,∃ m∈L,m.name=t/\m.done=QQ
 all:∀ m∈L,(∃ x∈made,x.name=m.name)∨m.name∈making
structure SI (w0:H)(hb:Nat)(s0 s1:QS)(w:H)(making:List ByteArray)(made:List Ent)(L:List SM)(md or st:QS):Prop where
 bel:Below w0.heap.size w0 w
 hbB:w0.heap.size<=hb
 box:ShBox w hb s0 s1 md or st 0 ⟨#[]⟩ (Y Z 0 0) QQ
 rmd:w.ownsRow w0.heap.size 161 6 md L.length (L.flatMap smV)
 ror:w.ownsRow w0.heap.size 9 1 or made.length (cu (made.map (·.name)))
 rst:w.ownsRow w0.heap.size 9 1 st making.length (cu making)
 apart:∀ k,or.ownBlock=N k->st.ownBlock≠N k
 seen:∀ m∈L,m.done=QR->w.ownsRow w0.heap.size 164 3 m.sv m.seen.length (eB m.seen)
section
variable {w0 w w':H}{hb:Nat}{s0 s1 md or st:QS}{making:List ByteArray}{made:List Ent}{L:List SM}
theorem SI.lt (h:SI w0 hb s0 s1 w making made L md or st):w0.heap.size<=w.heap.size:=h.bel.size
theorem SI.below {C:Nat}(h:SI w0 hb s0 s1 w making made L md or st)(b:Below C w w')(c:w.heap.size<=C):SI w0 hb s0 s1 w' making made L md or st :=
 ⟨h.bel.trans (b.mono (j4 h.lt c)),h.hbB,h.box.blk (b.block _ (lj (ah h.box) c)),own_below h.rmd b c,own_below h.ror b c,own_below h.rst b c,h.apart,fun m g f=>own_below (h.seen m g f) b c⟩
end
def dv:Option Nat->Int
 | some i=>(i:Int)
 | none=>-1
theorem iU (g:Nat->ByteArray)(n:Nat)(t:ByteArray):bF g n t=(atI g n t).isSome:=by unfold bF atI;rw[KN,List.find?_isSome,LM]
theorem us {g:Nat->ByteArray}{n:Nat}{t:ByteArray}(h:bF g n t=QQ):atI g n t=Z:=by rw[iU] at h;exact Option.isNone_iff_eq_none.1 (by simpa using h)
theorem rO {g:Nat->ByteArray}{n k:Nat}{t:ByteArray}(b:k<n)(h1:((g k).toList == t.toList)=QR)(h2:bF g k t=QQ):atI g n t=N k:=by
 unfold atI;rw[List.find?_range_eq_some];refine⟨h1,H7.2 b,fun j c=>?_⟩;cases e:((g j).toList == t.toList) with
 | false=>rfl
 | true =>rw[fe c e] at h2;cases h2
theorem qH (b off n0 c0:Nat)(a1:Option Addr)(n1 c1:Nat)(f:Nat->Source)(t:ByteArray)(w:H)(hn:(n0:Int)<=1048576)(n:RowSource w b off n0 f):Calls Tryz.prog 73 #[QV #[Y (N (T b off Z)) n0 c0,Y a1 n1 c1],U t] w fun e w'=>e=QU (I J (dv (atI (nm0 f) n0 t)))/\Below w.heap.size w w':=by
 have c:=ae ((q9 w).alloc ly (Q #[Y (N (T b off Z)) n0 c0,Y a1 n1 c1] 29));have m:=ae (n.below c ly);have o:(w.alloc (Q #[Y (N (T b off Z)) n0 c0,Y a1 n1 c1] 29)).cell? (T w.heap.size 0 Z)=N (Y (N (T b off Z)) n0 c0):=by simp
 clear n;obtain⟨R,hR⟩:∃ R,R=dv (atI (nm0 f) n0 t):=⟨_,rfl⟩
 rw[<-hR];have l:=ae hR;clear hR;go_enter Tryz.func73,Tryz.ntmps73;go_wp2;generalize w.alloc (Q #[Y (N (T b off Z)) n0 c0,Y a1 n1 c1] 29)=W at c m o ⊢;go_loop [5] (fun i=>∃ k:Nat,k<=n0/\i=I J k/\Hid (bF (nm0 f) k t=QQ)) (fun i=>n0 - (intOf i).toNat);case atStart=>exact⟨0,by omega,rfl,rfl⟩
 case round =>
  obtain⟨k,hk,rfl,j⟩:=hrel;by_cases g:k<n0
  ·obtain⟨d0,d1⟩:=m.2 k g
   cases hb:((f k).name.toList == t.toList) with
   | true =>have h:=ae hb;go_wp2;go_ret;exact⟨by rw[l.out,rO g h.out j.out];rfl,c⟩
   | false =>have h:=ae hb;go_wp2;exact⟨⟨k+1,by omega,by go_num,by show bF (nm0 f) (k+1) t=QQ;rw[jU,j.out];exact h⟩,by simp[intOf];omega⟩
  ·have e:k=n0:=by omega
   subst e;go_wp2;go_ret;exact⟨by rw[l.out,us j.out];rfl,c⟩
theorem qI (a0:Option Addr)(c0:Nat)(a1:Option Addr)(n1 c1:Nat)(t:ByteArray)(w:H):Calls Tryz.prog 73 #[QV #[Y a0 0 c0,Y a1 n1 c1],U t] w fun e w'=>e=QU (I J (-1))/\Below w.heap.size w w':=by
 have b:=ae ((q9 w).alloc ly (Q #[Y a0 0 c0,Y a1 n1 c1] 29));go_enter Tryz.func73,Tryz.ntmps73;go_wp2;go_loop [5] (fun i=>i=I J 0) (fun _=>0);case atStart=>rfl
 case round =>subst hrel;go_wp2;go_ret;exact⟨rfl,b⟩
theorem eu (a0:Option Addr)(n0 c0:Nat)(a1:Option Addr)(n1 c1:Nat)(f:Nat->Source)(t:ByteArray)(w:H)(hn:(n0:Int)<=1048576)(c:SlSource w a0 n0 f):Calls Tryz.prog 73 #[QV #[Y a0 n0 c0,Y a1 n1 c1],U t] w fun e w'=>e=QU (I J (dv (atI (nm0 f) n0 t)))/\Below w.heap.size w w':=by
 rcases c with rfl | ⟨b,off,rfl,g⟩
 ·exact qI a0 c0 a1 n1 c1 t w
 ·exact qH b off n0 c0 a1 n1 c1 f t w hn g
theorem qJ (a0:Option Addr)(n0 c0 b off n1 c1:Nat)(f:Nat->Target)(t:ByteArray)(w:H)(hn:(n1:Int)<=1048576)(n:RowTarget w b off n1 f):Calls Tryz.prog 74 #[QV #[Y a0 n0 c0,Y (N (T b off Z)) n1 c1],U t] w fun e w'=>e=QU (I J (dv (atI (nm1 f) n1 t)))/\Below w.heap.size w w':=by
 have c:=ae ((q9 w).alloc ly (Q #[Y a0 n0 c0,Y (N (T b off Z)) n1 c1] 29));have m:=ae (n.below c ly);have o:(w.alloc (Q #[Y a0 n0 c0,Y (N (T b off Z)) n1 c1] 29)).cell? (T w.heap.size 1 Z)=N (Y (N (T b off Z)) n1 c1):=by simp
 clear n;obtain⟨R,hR⟩:∃ R,R=dv (atI (nm1 f) n1 t):=⟨_,rfl⟩
 rw[<-hR];have l:=ae hR;clear hR;go_enter Tryz.func74,Tryz.ntmps74;go_wp2;generalize w.alloc (Q #[Y a0 n0 c0,Y (N (T b off Z)) n1 c1] 29)=W at c m o ⊢;go_loop [5] (fun i=>∃ k:Nat,k<=n1/\i=I J k/\Hid (bF (nm1 f) k t=QQ)) (fun i=>n1 - (intOf i).toNat);case atStart=>exact⟨0,by omega,rfl,rfl⟩
 case round =>
  obtain⟨k,hk,rfl,j⟩:=hrel;by_cases g:k<n1
  ·obtain⟨d0,ka,kc,d1,_⟩:=m.2 k g
   cases hb:((f k).name.toList == t.toList) with
   | true =>have h:=ae hb;go_wp2;go_ret;exact⟨by rw[l.out,rO g h.out j.out];rfl,c⟩
   | false =>have h:=ae hb;go_wp2;exact⟨⟨k+1,by omega,by go_num,by show bF (nm1 f) (k+1) t=QQ;rw[jU,j.out];exact h⟩,by simp[intOf];omega⟩
  ·have e:k=n1:=by omega
   subst e;go_wp2;go_ret;exact⟨by rw[l.out,us j.out];rfl,c⟩
theorem qK (a0:Option Addr)(n0 c0:Nat)(a1:Option Addr)(c1:Nat)(t:ByteArray)(w:H):Calls Tryz.prog 74 #[QV #[Y a0 n0 c0,Y a1 0 c1],U t] w fun e w'=>e=QU (I J (-1))/\Below w.heap.size w w':=by
 have b:=ae ((q9 w).alloc ly (Q #[Y a0 n0 c0,Y a1 0 c1] 29));go_enter Tryz.func74,Tryz.ntmps74;go_wp2;go_loop [5] (fun i=>i=I J 0) (fun _=>0);case atStart=>rfl
 case round =>subst hrel;go_wp2;go_ret;exact⟨rfl,b⟩
theorem eS (a0:Option Addr)(n0 c0:Nat)(a1:Option Addr)(n1 c1:Nat)(f:Nat->Target)(t:ByteArray)(w:H)(hn:(n1:Int)<=1048576)(c:SlTarget w a1 n1 f):Calls Tryz.prog 74 #[QV #[Y a0 n0 c0,Y a1 n1 c1],U t] w fun e w'=>e=QU (I J (dv (atI (nm1 f) n1 t)))/\Below w.heap.size w w':=by
 rcases c with rfl | ⟨b,off,rfl,g⟩
 ·exact qK a0 n0 c0 a1 c1 t w
 ·exact qJ a0 n0 c0 b off n1 c1 f t w hn g
theorem nN (m:SM):(smV m).length=6:=rfl
theorem bU {w:H}{b g cap:Nat}{L:List SM}(h:w.ownsRow b 161 6 (Y (N (T g 0 Z)) L.length cap) L.length (L.flatMap smV)){i:Nat}{m:SM}(f:L[i]?=N m)(j:Nat)(l:j<6){u:QS}(c:(smV m)[j]?=N u):w.cell? (T g (i*6+j) Z)=N u:=by have h1:=h.cells (g:=g) rfl (i*6+j) u (by rw[cW smV 6 nN L i j l m f];exact c);rw[addr_add,DN] at h1;exact h1
theorem ut {L:List SM}{k:Nat}{t:ByteArray}{m:SM}(b:L[k]?=N m)(h1:(m.name.toList == t.toList)=QR)(h2:∀ (j:Nat) (m:SM),j<k->L[j]?=N m->(m.name.toList == t.toList)=QQ):fI L t=N k:=by have c:=(gM.1 b).1;have f:=(gM.1 b).2;unfold fI;rw[MM];refine⟨c,by rw[f];exact h1,fun j g=>?_⟩;rw[MZ];exact h2 j _ g (gq (by omega))
theorem wO {L:List SM}{t:ByteArray}(h2:∀ (j:Nat) (m:SM),j<L.length->L[j]?=N m->(m.name.toList == t.toList)=QQ):fI L t=Z:=by unfold fI;rw[LI];intro m c;obtain⟨j,b⟩:=KU c;exact h2 j m (gM.1 b).1 b
section
variable {w0:H}{hb:Nat}{s0 s1 md or st:QS}{making:List ByteArray}{made:List Ent}{L:List SM}
theorem uu (w:H)(t:ByteArray)(r:Nat)(c2:w.cell? (T hb 2 Z)=N md)(f:w.ownsRow r 161 6 md L.length (L.flatMap smV))(hL:L.length<=100000):Calls Tryz.prog 92 #[.pointer (N (T hb 0 Z)),U t] w fun e w'=>e=QU (I J (dv (fI L t)))/\w'=w:=by
 obtain⟨R,hR⟩:∃ R,R=dv (fI L t):=⟨_,rfl⟩
 rw[<-hR];have y:=ae hR;have o:=ae f;obtain⟨a,c,rfl⟩:∃ a c,md=Y a L.length c:=by
  obtain⟨_,⟨rfl,e⟩ | ⟨g,cap,x,rfl,_⟩⟩:=f
  ·exact⟨Z,0,by rw[e]⟩
  ·exact⟨_,_,rfl⟩
 obtain⟨n,hn⟩:∃ n,n=L.length:=⟨_,rfl⟩
 have q:=ae hn;rw[<-hn] at c2 hL;clear f hR hn;go_enter Tryz.func92,Tryz.ntmps92;go_wp2;go_loop [5] (fun i=>∃ k:Nat,k<=n/\i=I J k/\Hid (∀ (j:Nat) (m:SM),j<k->L[j]?=N m->(m.name.toList == t.toList)=QQ)) (fun i=>n - (intOf i).toNat);case atStart=>exact⟨0,by omega,rfl,fun j m u=>absurd u (JP _)⟩
 case round =>
  obtain⟨k,hk,rfl,p⟩:=hrel;by_cases hlt:k<n
  ·obtain⟨m,b⟩:∃ m,L[k]?=N m:=⟨_,gq (by have:=q.out;omega)⟩
   obtain⟨g,cap,x,e,-⟩:=o.2.resolve_left (fun h=>by have:=q.out;omega);simp only[I5,PR] at e;obtain⟨rfl,rfl⟩:=e;have d0:w.cell? (T g (k*6) Z)=N (U m.name):=bU o b 0 (by omega) rfl;have z:=ae b;have hI:(k:Int)<(n:Int):=by omega
   clear b;cases hb2:(m.name.toList == t.toList) with
   | true =>have s:=ae hb2;go_wp2;go_ret;exact⟨by rw[y.out,ut z.out s.out p.out];rfl,rfl⟩
   | false =>
    have s:=ae hb2;go_wp2;refine⟨⟨k+1,by omega,by go_num,fun j A u l=>?_⟩,by simp[intOf];omega⟩;by_cases e:j=k
    ·subst e;rw[z.out] at l;cases l;exact s
    ·exact p j A (by omega) l
  ·have e:k=n:=by omega
   subst e;go_wp2;go_ret;exact⟨by rw[y.out,wO (fun j m u b=>p.out j m (by have:=q.out;omega) b)];rfl,rfl⟩
theorem iA (w:H)(t:ByteArray)(h:SI w0 hb s0 s1 w making made L md or st)(hL:L.length<=100000):Calls Tryz.prog 92 #[.pointer (N (T hb 0 Z)),U t] w fun e w'=>e=QU (I J (dv (fI L t)))/\w'=w:=by obtain⟨-,-,-,c2,-⟩:=h.box.facts;exact uu w t w0.heap.size c2 h.rmd hL
end
structure lZ (w0:H)(S:Spc)(a0:Option Addr)(a1:Option Addr):Prop where
 src:SlSource w0 a0 S.n0 S.f0
 tgt:SlTarget w0 a1 S.n1 S.f1
 ok:SpcOk S
def iV (w0:H)(hb:Nat)(w':H)(r:jH)(b:QS):Prop:=∃ s0 s1 md or st,ShBox w' hb s0 s1 md or st r.code r.text b QR/\w'.ownsRow w0.heap.size 9 1 b r.chain.length (cu r.chain)
structure LExt (n:Nat)(L L':List SM):Prop where
 nam:∀ (i:Nat) (m:SM),L[i]?=N m->∃ m':SM,L'[i]?=N m'/\m'.name=m.name
 sn:∀ m∈L',m.done=QR->(∃ m0∈L,m0.done=QR/\m0.sv=m.sv)∨∀ k,m.sv.ownBlock=N k->n<=k
theorem LExt.refl (n:Nat)(L:List SM):LExt n L L:=⟨fun _ m h=>⟨m,h,rfl⟩,fun m c b=>.inl ⟨m,c,b,rfl⟩⟩
theorem LExt.trans {n o:Nat}{L q b:List SM}(h:LExt n L q)(k:LExt o q b)(hn:n<=o):LExt n L b:=by
 refine⟨fun i m c=>?_,fun m c r=>?_⟩
 ·obtain⟨g,h1,j⟩:=h.nam i m c
  obtain⟨s,h2,t⟩:=k.nam i g h1;exact⟨s,h2,t.trans j⟩
 ·rcases k.sn m c r with ⟨m0,u,l,e⟩ | h1
  ·rcases h.sn m0 u l with ⟨g,h1,p,j⟩ | h1
   ·exact .inl ⟨g,h1,p,j.trans e⟩
   ·exact .inr fun k f=>h1 k (by rw[e];exact f)
  ·exact .inr fun k f=>j4 hn (h1 k f)
def jn (c:List ByteArray):jH:=⟨6,⟨#[]⟩,c⟩
def jo (d:ByteArray):jH:=⟨7,d,[]⟩
def iB (r:jH)(b:QS):QS:=QV #[I J r.code,U r.text,b]
def jN (w0:H)(hb:Nat)(s0 s1:QS)(making:List ByteArray)(L:List SM)(w:H)(e:Ending)(w':H):Out Ent->Prop
 | .inl (made',x)=>∃ b g h f,e=QU (QV #[I J (dK x).code,U (dK x).text,Y Z 0 0])/\SI w0 hb s0 s1 w' making made' b g h f/\fA b making made'/\LExt w.heap.size L b/\KS w0.heap.size XN w w'
 | .inr (.inl c)=>∃ a k,e=QU (iB (jn c) (Y a c.length k))/\iV w0 hb w' (jn c) (Y a c.length k)/\KS w0.heap.size XN w w'
 | .inr (.inr d)=>e=QU (iB (jo d) (Y Z 0 0))/\iV w0 hb w' (jo d) (Y Z 0 0)/\KS w0.heap.size XN w w'
def fc (S:Spc)(making:List ByteArray)(made:List Ent)(k:Nat):Prop:=made.length+201*eo S making made+k<=50000
def MT (S:Spc)(making:List ByteArray):Prop:=∀ t∈making,(atI (nm1 S.f1) S.n1 t).isSome=QR
def nu (w0:H)(S:Spc)(hb:Nat)(s0 s1:QS)(n:Nat):Prop:=∀ making made L md or st w nm,making.length+n=60->SI w0 hb s0 s1 w making made L md or st->fA L making made->PG S making made->fc S making made 1->MT S making->av nm=QR ->
 Calls Tryz.prog 91 #[.pointer (N (T hb 0 Z)),U nm] w fun e w'=>jN w0 hb s0 s1 making L w e w' (aX S n making made nm)
theorem fw {e:TypeId}{z:QS}{a b:Nat}(h:(Tryz.prog.info? e).map (fun i=>(i.zero,i.size,i.bytes))=N (N z,a,b)):∃ i,Tryz.prog.info? e=N i/\i.zero=N z/\i.size=a/\i.bytes=b:=by
 cases hi:Tryz.prog.info? e with
 | none=>rw[hi] at h;cases h
 | some i =>rw[hi] at h;simp only[PV,JL,IT] at h;exact⟨i,rfl,h⟩
theorem iC:(Tryz.prog.info? 9).map (fun i=>(i.zero,i.size,i.bytes))=N (N (U ⟨#[]⟩),1,16):=by kernel_rfl
theorem yD:(Tryz.prog.info? 156).map (fun i=>(i.zero,i.size,i.bytes))=N (N (QV #[QT QQ,I J 0,U ⟨#[]⟩]),3,32):=by kernel_rfl
theorem Dn:(Tryz.prog.info? 164).map (fun i=>(i.zero,i.size,i.bytes))=N (N (QV #[U ⟨#[]⟩,QT QQ,QT QQ]),3,24):=by kernel_rfl
theorem ma:(Tryz.prog.info? 161).map (fun i=>(i.zero,i.size,i.bytes))=N (N (QV #[U ⟨#[]⟩,I J 0,U ⟨#[]⟩,Y Z 0 0,Y Z 0 0,QT QQ]),6,96):=by kernel_rfl
def mc (b:List aI):List QS:=b.flatMap fun r=>[QT r.has,I J r.code,U r.text]
theorem Do (b:List aI)(r:aI):mc (b++[r])=mc b++[QT r.has,I J r.code,U r.text]:=by simp[mc]
theorem An (b:List Lk)(l:Lk):eB (b++[l])=eB b++[U l.name,QT l.ask,QT l.has]:=by simp[eB]
theorem Fc {w:H}{l g c:Nat}{b:List aI}(h:w.ownsRow l 156 3 (Y (N (T g 0 Z)) b.length c) b.length (mc b)):RowReply w g 0 b.length (yL b):=by
 obtain⟨_,n,cs,hc⟩:=ar h g rfl;refine⟨n,fun i hi=>?_⟩;have m:b[i]?=N (yL b i):=by simp[yL,gq hi]
 have f:∀ j u,j<3->([Value.bool (yL b i).has,I J (yL b i).code,U (yL b i).text]:List QS)[j]?=N u->w.cell? (T g (i*3+j) Z)=N u:=fun j u p o=>by have h1:=h.cells (g:=g) rfl (i*3+j) u (by rw[mc,cW (fun r:aI=>[QT r.has,I J r.code,U r.text]) 3 (fun _=>rfl) b i j p _ m];exact o);rw[addr_add,DN] at h1;exact h1
 refine⟨?_,?_,?_⟩
 ·rw[DN];exact f 0 _ (by omega) rfl
 ·rw[DN];exact f 1 _ (by omega) rfl
 ·rw[DN];exact f 2 _ (by omega) rfl
theorem kZ (w:H)(e:TypeId)(size:Nat):(w.alloc (Q #[] e)).ownsRow w.heap.size e size (Y (N (T w.heap.size 0 Z)) 0 0) 0 [] :=
 ⟨by simp,.inr ⟨w.heap.size,0,#[],rfl,j5 _,cM _ _,j5 _,AI _,by simp,by simp⟩⟩
theorem Ao {S:Spc}(i:SpcOk S){tg:Nat}(g:tg<S.n1){b:List aI}(f:∀ y∈b,dh y=QR)(hl:b.length<=200):sE (S.f1 tg).act (S.f1 tg).actN (yL b) b.length=bK S tg b:=by
 unfold sE;have c:ce (yL b) b.length=QR:=by
  have:∀ k,ce (yL b) k=QR:=fun k=>by
   induction k with
   | zero=>rfl
   | succ k h=>rw[ce,h,Ef f k];rfl
  exact this _
 rw[eI (by rw[i.act tg g];simp),eI (by omega),eI (by rw[c];simp)];rfl
theorem Dp {S:Spc}(c:SpcOk S){tg:Nat}(b:tg<S.n1):∀ i,i<(S.f1 tg).actN->((S.f1 tg).act i).s.size<=maxLen:=fun i hi=>by
 have h1:=nA (cJ (c.act tg b)).1 hi;simp only[cK,kP] at h1;obtain⟨i1,i2,i3,i4,i5⟩:=h1;have hmt2:bW ((S.f1 tg).act i).op<=2000:=by unfold bW;split<;>omega
 unfold maxLen;omega
section
variable {w0:H}{S:Spc}{a0 a1:Option Addr}{c0 c1 hb:Nat}{md or st:QS}{making:List ByteArray}{made:List Ent}{L:List SM}
theorem oW (C:lZ w0 S a0 a1)(w:H)(t:ByteArray)(f:Below w0.heap.size w0 w)(o:hb<w.heap.size)(j:w.cell? (T hb 0 Z)=N (Y a0 S.n0 c0))(l:w.cell? (T hb 1 Z)=N (Y a1 S.n1 c1)):Calls Tryz.prog 177 #[.pointer (N (T hb 0 Z)),U t] w fun e w'=>e=QU (QT (gX S t))/\Below w.heap.size w w':=by
 have s:=ae C;have m:=ae f;have hsm:=C.ok.small;obtain⟨R,hR⟩:∃ R,R=gX S t:=⟨_,rfl⟩
 rw[<-hR];have n:Hid (R=((atI (nm0 S.f0) S.n0 t).isSome || (atI (nm1 S.f1) S.n1 t).isSome)):=by show _=_;rw[hR];unfold gX;rw[iU,iU]
 clear C f hR;go_enter Tryz.func177,Tryz.ntmps177;go_wp2_with fail;refine(eu a0 S.n0 c0 a1 S.n1 c1 S.f0 t w (by omega) (s.src.below m ly)).mono ?_;rintro e q ⟨rfl,b⟩;have x:=(b.cell (p:=(T hb 0 Z)) o).trans j;have y:=(b.cell (p:=(T hb 1 Z)) o).trans l;have hl1:hb<q.heap.size:=lj o b.size;have h:=ae b;clear b j l;cases h0:atI (nm0 S.f0) S.n0 t with
 | some i =>
  have g:=ae h0;clear h0;have u:(0:Int)<=(i:Int):=by omega
  simp only[dv];go_wp2;go_ret;exact⟨by rw[n.out,g.out];rfl,h⟩
 | none =>
  have g:=ae h0;clear h0;simp only[dv];go_wp2_with fail;refine(eS a0 S.n0 c0 a1 S.n1 c1 S.f1 t q (by omega) (s.tgt.below (m.trans (h.mono m.size)) ly)).mono ?_;rintro e w2 ⟨rfl,b⟩;have r:=ae (h.trans (b.mono h.size));clear b x y;cases h1:atI (nm1 S.f1) S.n1 t with
  | some i =>
   have c:=ae h1;clear h1;have u:(0:Int)<=(i:Int):=by omega
   simp only[dv];go_wp2;go_ret;exact⟨by rw[n.out,g.out,c.out];simp,r⟩
  | none =>have c:=ae h1;clear h1;simp only[dv];go_wp2;go_ret;exact⟨by rw[n.out,g.out,c.out];rfl,r⟩
end
end Go.Proofs.YtamacmnikdejeaaGreatDoor.Vp
