import Derived.Test.YtamacmnikdejeaaGreatDoorRT
import Derived.Test.YtamacmnikdejeaaGreatDoorSA
import Derived.Test.YtamacmnikdejeaaGreatDoorRH
import Derived.Test.YtamacmnikdejeaaGreatDoorSU
import Derived.Maps.OwnSet
import Derived.Maps.Views
import Derived.Maps.RangeWalk
import Derived.StringKeys
import Derived.DeepKeys4
set_option maxHeartbeats 2000000
open Go.Addr renaming mk->N
open Go.Value renaming slice->Y,string->U,int->J,bool->QC,agg->QG
open Option renaming none->Z,some->T
open Go.Obj renaming cells->Q
open Go.IntKind renaming i64->I
open Go renaming World->G,Value->QE
open Bool renaming false->QB,true->QD
open Go.Ending renaming returned->QF
namespace Go.Proofs.YtamacmnikdejeaaGreatDoor.Vp
open RowKit Go.Maps
section
variable (w:G){ops:Array Oper}{rest:List Oper}{o:Oper}{a:Act}{QM:Exit->Act->G->Prop}
end
end Go.Proofs.YtamacmnikdejeaaGreatDoor.Vp
namespace Go.Proofs.YtamacmnikdejeaaGreatDoor.Vp
open RowKit
structure KX (B:Nat)(X:Nat->Prop)(w w':G):Prop where
 below:Below B w w'
 blk:∀ i cs t fz,w.heap[i]?=T (Q cs t fz)->t≠9->t≠134->t≠196->¬ X i->w'.heap[i]?=w.heap[i]?
def XN:Nat->Prop:=fun _=>False
theorem ag {w:G}{i:Nat}{o:Obj}(h:w.heap[i]?=T o):i<w.heap.size:=by
 rcases JK i w.heap.size with b | b
 ·exact b
 ·rw[JP b] at h;cases h
theorem aA {w:G}{b j:Nat}{f:Array QE}{t:TypeId}(h:w.heap[b]?=T (Q f t (0,0)))(v:QE):(w.setCell (N b j Z) v).heap[b]?=T (Q (f.setIfInBounds j v) t (0,0)):=by simp only[World.setCell,IK,gM,h,MZ];rfl
def bZ (L:List ByteArray):List QE:=L.map U
theorem de {w w':G}{b size n:Nat}{e:TypeId}{v:QE}{f:List QE}(h:w.ownsRow b e size v n f)(hb:∀ k,v.ownBlock=T k->w'.heap[k]?=w.heap[k]?):w'.ownsRow b e size v n f:=by
 obtain⟨h1,h2 | ⟨g,cap,i,rfl,l,j,m⟩⟩:=h
 ·exact⟨h1,.inl h2⟩
 ·exact⟨h1,.inr ⟨g,cap,i,rfl,l,(hb g rfl).trans j,m⟩⟩
theorem aj {w:G}{b size n:Nat}{e:TypeId}{v:QE}{m:List QE}(h:w.ownsRow b e size v n m):∀ k,v.ownBlock=T k->b<=k/\k<w.heap.size/\∃ o,w.heap[k]?=T (Q o e (0,0)):=by
 intro k i;obtain⟨h1,⟨rfl,_⟩ | ⟨g,cap,j,rfl,l,f,h5⟩⟩:=h
 ·cases i
 ·cases i
  exact⟨l,ag f,j,f⟩
section
variable {w0 w w':G}{S:Spc}{mb mp:Nat}{s0 s1 mk md:QE}{cnt nk np:Nat}{F:List UInt8->Option QE}{ks ps:List QE}{made:List Ent}{QR:ByteArray->Nat}{V:ByteArray->QE}
theorem ay {w:G}{f size n b:Nat}{e:TypeId}{v:QE}{g:List QE}(h:w.ownsRow f e size v n g)(hb:v.ownBlock≠T b)(j:Nat)(u:QE):(w.setCell (N b j Z) u).ownsRow f e size v n g :=
 de h fun k i=>qh _ _ _ _ fun e=>hb (by rw[i];exact BC T e)
theorem ar {w:G}{b:Nat}{m i:Array QE}{t j:TypeId}{f l:Nat × Nat}(h:w.heap[b]?=T (Q m t f))(g:w.heap[b]?=T (Q i j l)):t=j:=by rw[h] at g;simp only[IF,Obj.cells.injEq] at g;exact g.2.1
end
section
variable {w0:G}{S:Spc}{mb mp:Nat}{s0 s1 mk md:QE}{mm making:List ByteArray}{made:List Ent}{QR:ByteArray->Nat}{V:ByteArray->QE}
end
section
variable {w0 w:G}{S:Spc}{mb mp:Nat}{s0 s1 mk md:QE}{mm making:List ByteArray}{made:List Ent}{QR:ByteArray->Nat}{V:ByteArray->QE}
end
section
variable {w0 w:G}{S:Spc}{mb mp:Nat}{s0 s1 mk md:QE}{cnt nk np:Nat}{F:List UInt8->Option QE}{ks ps:List QE}{made:List Ent}{QR:ByteArray->Nat}{V:ByteArray->QE}
end
end Go.Proofs.YtamacmnikdejeaaGreatDoor.Vp
namespace Go.Proofs.YtamacmnikdejeaaGreatDoor.Vp
open RowKit Ca
theorem ep {w:G}{b size n:Nat}{e:TypeId}{v:QE}{f:List QE}(h:w.ownsRow b e size v n f):∃ a cap,v=Y a n cap:=by
 obtain⟨_,⟨rfl,rfl⟩ | ⟨g,cap,cur,rfl,_⟩⟩:=h
 ·exact⟨Z,0,rfl⟩
 ·exact⟨_,_,rfl⟩
section
variable {w0:G}{S:Spc}{a0 a1:Option Addr}{c0 c1 mb mp:Nat}{mk md:QE}{making:List ByteArray}{made:List Ent}{QR:ByteArray->Nat}{V:ByteArray->QE}
end
end Go.Proofs.YtamacmnikdejeaaGreatDoor.Vp
namespace Go.Proofs.YtamacmnikdejeaaGreatDoor.Vp
open RowKit
section
variable {w0 w w':G}{S:Spc}{mb mp:Nat}{s0 s1 mk md:QE}{cnt nk np:Nat}{F:List UInt8->Option QE}{ks ps:List QE}{made:List Ent}{QR:ByteArray->Nat}{V:ByteArray->QE}
end
def TB (w:G)(g:Nat)(t:Turn):Prop:=w.heap[g]?=T (Q #[QC t.over,J I t.code,U t.text,QC t.ask,U t.name,J I t.steps] 150 (0,0))
end Go.Proofs.YtamacmnikdejeaaGreatDoor.Vp
namespace Go.Proofs.YtamacmnikdejeaaGreatDoor.Vp
open RowKit Ca
section
variable {w0:G}{S:Spc}{a0 a1:Option Addr}{c0 c1 mb mp:Nat}{making:List ByteArray}
end
end Go.Proofs.YtamacmnikdejeaaGreatDoor.Vp
namespace Go.Proofs.YtamacmnikdejeaaGreatDoor.Vp
open RowKit
structure KS (B:Nat)(X:Nat->Prop)(w w':G):Prop where
 below:Below B w w'
 blk:∀ i cs t fz,w.heap[i]?=T (Q cs t fz)->t≠9->t≠161->t≠89->¬ X i->w'.heap[i]?=w.heap[i]?
theorem KS.trans {B:Nat}{X QH:Nat->Prop}{w w' b:G}(h:KS B X w w')(k:KS B QH w' b)(g:∀ i,i<w.heap.size->QH i->X i):KS B X w b :=
 ⟨h.below.trans k.below,fun i j t fz hi h1 h2 f hX=>by
  have e:=h.blk i j t fz hi h1 h2 f hX;rw[<-e]
  exact k.blk i j t fz (e.trans hi) h1 h2 f fun l=>hX (g i (ag hi) l)⟩
theorem KS.to {B:Nat}{w w' b:G}{X:Nat->Prop}(h:KS B X w w')(k:KS B XN w' b):KS B X w b:=h.trans k fun _ _ h=>h.elim
theorem KS.of_below {B C:Nat}{X:Nat->Prop}{w w':G}(h:Below C w w')(b:w.heap.size<=C)(f:B<=w.heap.size):KS B X w w' :=
 ⟨h.mono (p9 f b),fun i _ _ _ hi _ _ _ _=>h.block i (lj (ag hi) b)⟩
theorem KS.of_grown {B:Nat}{X:Nat->Prop}{row:Option Nat}{w w':G}(h:w.grownBy w' row)(n:B<=w.heap.size)(g:∀ j,row=T j->B<=j/\(X j∨∀ f t fz,w.heap[j]?=T (Q f t fz)->t=9∨t=161∨t=89)):KS B X w w':=by
 refine⟨⟨h.os,h.tape,h.output,h.size,fun k m=>h.block k (lj m n) fun e=>?_⟩,fun i f t fz hi h1 h2 l hX=>h.block i (ag hi) fun e=>?_⟩
 ·have:=(g k e.symm).1
  omega
 ·rcases(g i e.symm).2 with b | b
  ·exact hX b
  ·rcases b f t fz hi with e | e | e
   ·exact h1 e
   ·exact h2 e
   ·exact l e
theorem KS.setCell {B:Nat}{X:Nat->Prop}(w:G){b j:Nat}(hb:B<=b)(f:X b∨∀ g t fz,w.heap[b]?=T (Q g t fz)->t=9∨t=161∨t=89)(v:QE):KS B X w (w.setCell (N b j Z) v):=by
 refine⟨(a8 B w).setCell hb v,fun i g t fz hi h1 h2 h hX=>?_⟩;refine qh _ _ _ _ fun e=>?_;simp at e;subst e;rcases f with f | f
 ·exact hX f
 ·rcases f g t fz hi with e | e | e
  ·exact h1 e
  ·exact h2 e
  ·exact h e
def ShBox (w:G)(hb:Nat)(s0 s1 md or st:QE)(g:Int)(sx:ByteArray)(f:QE)(b:Bool):Prop:=w.heap[hb]?=T (Q #[s0,s1,md,or,st,J I g,U sx,f,QC b] 89 (0,0))
theorem ShBox.facts {w:G}{hb:Nat}{s0 s1 md or st f:QE}{g:Int}{sx:ByteArray}{b:Bool}(h:ShBox w hb s0 s1 md or st g sx f b):hb<w.heap.size/\w.cell? (N hb 0 Z)=T s0/\w.cell? (N hb 1 Z)=T s1/\w.cell? (N hb 2 Z)=T md/\w.cell? (N hb 3 Z)=T or/\w.cell? (N hb 4 Z)=T st/\w.cell? (N hb 5 Z)=T (J I g)/\w.cell? (N hb 6 Z)=T (U sx)/\w.cell? (N hb 7 Z)=T f/\w.cell? (N hb 8 Z)=T (QC b)/\∀ j,w.frozen? (N hb j Z)=QB:=by unfold ShBox at h;refine⟨ag h,?_,?_,?_,?_,?_,?_,?_,?_,?_,fun j=>?_⟩;all_goals simp[World.cell?,World.frozen?,h]
theorem ShBox.blk {w w':G}{hb:Nat}{s0 s1 md or st f:QE}{i:Int}{sx:ByteArray}{b:Bool}(h:ShBox w hb s0 s1 md or st i sx f b)(g:w'.heap[hb]?=w.heap[hb]?):ShBox w' hb s0 s1 md or st i sx f b:=g.trans h
structure SM where
 name:ByteArray
 code:Int
 text:ByteArray
 seen:List Lk
 sv:QE
 done:Bool
def smV (m:SM):List QE:=[U m.name,J I m.code,U m.text,Y Z 0 0,m.sv,QC m.done]
def dW (b:List Lk):List QE:=b.flatMap fun l=>[U l.name,QC l.ask,QC l.has]
def fI (L:List SM)(t:ByteArray):Option Nat:=L.findIdx? fun m=>m.name.toList == t.toList
structure fe (L:List SM)(making:List ByteArray)(made:List Ent):Prop where
 nod:L.Pairwise fun m m'=>m.name≠m'.name
 len:L.length=made.length+making.length
 got:∀ x∈made,∃ m∈L,m.name=x.name/\m.done=QD/\m.code=(du x).code/\m.text=(du x).text/\m.seen=x.looks
 mkg:∀ t∈making,∃ m∈L,m.name=t/\m.done=QB
 all:∀ m∈L,(∃ x∈made,x.name=m.name)∨m.name∈making
structure SI (w0:G)(hb:Nat)(s0 s1:QE)(w:G)(making:List ByteArray)(made:List Ent)(L:List SM)(md or st:QE):Prop where
 bel:Below w0.heap.size w0 w
 hbB:w0.heap.size<=hb
 box:ShBox w hb s0 s1 md or st 0 ⟨#[]⟩ (Y Z 0 0) QB
 rmd:w.ownsRow w0.heap.size 161 6 md L.length (L.flatMap smV)
 ror:w.ownsRow w0.heap.size 9 1 or made.length (bZ (made.map (·.name)))
 rst:w.ownsRow w0.heap.size 9 1 st making.length (bZ making)
 apart:∀ k,or.ownBlock=T k->st.ownBlock≠T k
 seen:∀ m∈L,m.done=QD->w.ownsRow w0.heap.size 164 3 m.sv m.seen.length (dW m.seen)
section
variable {w0 w w':G}{hb:Nat}{s0 s1 md or st:QE}{making:List ByteArray}{made:List Ent}{L:List SM}
theorem SI.lt (h:SI w0 hb s0 s1 w making made L md or st):w0.heap.size<=w.heap.size:=h.bel.size
theorem SI.below {C:Nat}(h:SI w0 hb s0 s1 w making made L md or st)(b:Below C w w')(f:w.heap.size<=C):SI w0 hb s0 s1 w' making made L md or st :=
 ⟨h.bel.trans (b.mono (p9 h.lt f)),h.hbB,h.box.blk (b.block _ (lj (ag h.box) f)),own_below h.rmd b f,own_below h.ror b f,own_below h.rst b f,h.apart,fun m g i=>own_below (h.seen m g i) b f⟩
end
def da:Option Nat->Int
 | some i=>(i:Int)
 | none=>-1
theorem ik (g:Nat->ByteArray)(n:Nat)(t:ByteArray):aG g n t=(atI g n t).isSome:=by unfold aG atI;rw[JL,List.find?_isSome,MP]
theorem tM {g:Nat->ByteArray}{n:Nat}{t:ByteArray}(h:aG g n t=QB):atI g n t=Z:=by rw[ik] at h;exact Option.isNone_iff_eq_none.1 (by simpa using h)
theorem qW {g:Nat->ByteArray}{n k:Nat}{t:ByteArray}(b:k<n)(h1:((g k).toList == t.toList)=QD)(h2:aG g k t=QB):atI g n t=T k:=by
 unfold atI;rw[List.find?_range_eq_some];refine⟨h1,HU.2 b,fun j f=>?_⟩;cases e:((g j).toList == t.toList) with
 | false=>rfl
 | true =>rw[fO f e] at h2;cases h2
theorem qe (b off n0 c0:Nat)(a1:Option Addr)(n1 c1:Nat)(f:Nat->Source)(t:ByteArray)(w:G)(hn:(n0:Int)<=1048576)(n:RowSource w b off n0 f):Calls Tryz.prog 73 #[QG #[Y (T (N b off Z)) n0 c0,Y a1 n1 c1],U t] w fun e w'=>e=QF (J I (da (atI (nm0 f) n0 t)))/\Below w.heap.size w w':=by
 have g:=ae ((q9 w).alloc ly (Q #[Y (T (N b off Z)) n0 c0,Y a1 n1 c1] 29));have o:=ae (n.below g ly);have p:(w.alloc (Q #[Y (T (N b off Z)) n0 c0,Y a1 n1 c1] 29)).cell? (N w.heap.size 0 Z)=T (Y (T (N b off Z)) n0 c0):=by simp
 clear n;obtain⟨R,hR⟩:∃ R,R=da (atI (nm0 f) n0 t):=⟨_,rfl⟩
 rw[<-hR];have m:=ae hR;clear hR;go_enter Tryz.func73,Tryz.ntmps73;go_wp2;generalize w.alloc (Q #[Y (T (N b off Z)) n0 c0,Y a1 n1 c1] 29)=W at g o p ⊢;go_loop [5] (fun i=>∃ k:Nat,k<=n0/\i=J I k/\Hid (aG (nm0 f) k t=QB)) (fun i=>n0 - (intOf i).toNat);case atStart=>exact⟨0,by omega,rfl,rfl⟩
 case round =>
  obtain⟨k,hk,rfl,l⟩:=hrel;by_cases h:k<n0
  ·obtain⟨d0,d1⟩:=o.2 k h
   cases hb:((f k).name.toList == t.toList) with
   | true =>have j:=ae hb;go_wp2;go_ret;exact⟨by rw[m.out,qW h j.out l.out];rfl,g⟩
   | false =>have j:=ae hb;go_wp2;exact⟨⟨k+1,by omega,by go_num,by show aG (nm0 f) (k+1) t=QB;rw[jv,l.out];exact j⟩,by simp[intOf];omega⟩
  ·have e:k=n0:=by omega
   subst e;go_wp2;go_ret;exact⟨by rw[m.out,tM l.out];rfl,g⟩
theorem qg (a0:Option Addr)(c0:Nat)(a1:Option Addr)(n1 c1:Nat)(t:ByteArray)(w:G):Calls Tryz.prog 73 #[QG #[Y a0 0 c0,Y a1 n1 c1],U t] w fun e w'=>e=QF (J I (-1))/\Below w.heap.size w w':=by
 have b:=ae ((q9 w).alloc ly (Q #[Y a0 0 c0,Y a1 n1 c1] 29));go_enter Tryz.func73,Tryz.ntmps73;go_wp2;go_loop [5] (fun i=>i=J I 0) (fun _=>0);case atStart=>rfl
 case round =>subst hrel;go_wp2;go_ret;exact⟨rfl,b⟩
theorem dU (a0:Option Addr)(n0 c0:Nat)(a1:Option Addr)(n1 c1:Nat)(f:Nat->Source)(t:ByteArray)(w:G)(hn:(n0:Int)<=1048576)(h:SlSource w a0 n0 f):Calls Tryz.prog 73 #[QG #[Y a0 n0 c0,Y a1 n1 c1],U t] w fun e w'=>e=QF (J I (da (atI (nm0 f) n0 t)))/\Below w.heap.size w w':=by
 rcases h with rfl | ⟨b,off,rfl,g⟩
 ·exact qg a0 c0 a1 n1 c1 t w
 ·exact qe b off n0 c0 a1 n1 c1 f t w hn g
theorem qi (a0:Option Addr)(n0 c0 b off n1 c1:Nat)(f:Nat->Target)(t:ByteArray)(w:G)(hn:(n1:Int)<=1048576)(n:RowTarget w b off n1 f):Calls Tryz.prog 74 #[QG #[Y a0 n0 c0,Y (T (N b off Z)) n1 c1],U t] w fun e w'=>e=QF (J I (da (atI (nm1 f) n1 t)))/\Below w.heap.size w w':=by
 have g:=ae ((q9 w).alloc ly (Q #[Y a0 n0 c0,Y (T (N b off Z)) n1 c1] 29));have o:=ae (n.below g ly);have p:(w.alloc (Q #[Y a0 n0 c0,Y (T (N b off Z)) n1 c1] 29)).cell? (N w.heap.size 1 Z)=T (Y (T (N b off Z)) n1 c1):=by simp
 clear n;obtain⟨R,hR⟩:∃ R,R=da (atI (nm1 f) n1 t):=⟨_,rfl⟩
 rw[<-hR];have m:=ae hR;clear hR;go_enter Tryz.func74,Tryz.ntmps74;go_wp2;generalize w.alloc (Q #[Y a0 n0 c0,Y (T (N b off Z)) n1 c1] 29)=W at g o p ⊢;go_loop [5] (fun i=>∃ k:Nat,k<=n1/\i=J I k/\Hid (aG (nm1 f) k t=QB)) (fun i=>n1 - (intOf i).toNat);case atStart=>exact⟨0,by omega,rfl,rfl⟩
 case round =>
  obtain⟨k,hk,rfl,l⟩:=hrel;by_cases h:k<n1
  ·obtain⟨d0,ka,kc,d1,_⟩:=o.2 k h
   cases hb:((f k).name.toList == t.toList) with
   | true =>have j:=ae hb;go_wp2;go_ret;exact⟨by rw[m.out,qW h j.out l.out];rfl,g⟩
   | false =>have j:=ae hb;go_wp2;exact⟨⟨k+1,by omega,by go_num,by show aG (nm1 f) (k+1) t=QB;rw[jv,l.out];exact j⟩,by simp[intOf];omega⟩
  ·have e:k=n1:=by omega
   subst e;go_wp2;go_ret;exact⟨by rw[m.out,tM l.out];rfl,g⟩
theorem qj (a0:Option Addr)(n0 c0:Nat)(a1:Option Addr)(c1:Nat)(t:ByteArray)(w:G):Calls Tryz.prog 74 #[QG #[Y a0 n0 c0,Y a1 0 c1],U t] w fun e w'=>e=QF (J I (-1))/\Below w.heap.size w w':=by
 have b:=ae ((q9 w).alloc ly (Q #[Y a0 n0 c0,Y a1 0 c1] 29));go_enter Tryz.func74,Tryz.ntmps74;go_wp2;go_loop [5] (fun i=>i=J I 0) (fun _=>0);case atStart=>rfl
 case round =>subst hrel;go_wp2;go_ret;exact⟨rfl,b⟩
theorem eu (a0:Option Addr)(n0 c0:Nat)(a1:Option Addr)(n1 c1:Nat)(f:Nat->Target)(t:ByteArray)(w:G)(hn:(n1:Int)<=1048576)(h:SlTarget w a1 n1 f):Calls Tryz.prog 74 #[QG #[Y a0 n0 c0,Y a1 n1 c1],U t] w fun e w'=>e=QF (J I (da (atI (nm1 f) n1 t)))/\Below w.heap.size w w':=by
 rcases h with rfl | ⟨b,off,rfl,g⟩
 ·exact qj a0 n0 c0 a1 c1 t w
 ·exact qi a0 n0 c0 b off n1 c1 f t w hn g
theorem mU (m:SM):(smV m).length=6:=rfl
theorem bR {w:G}{b g cap:Nat}{L:List SM}(h:w.ownsRow b 161 6 (Y (T (N g 0 Z)) L.length cap) L.length (L.flatMap smV)){i:Nat}{m:SM}(f:L[i]?=T m)(j:Nat)(l:j<6){u:QE}(n:(smV m)[j]?=T u):w.cell? (N g (i*6+j) Z)=T u:=by have h1:=h.cells (g:=g) rfl (i*6+j) u (by rw[cK smV 6 mU L i j l m f];exact n);rw[addr_add,D0] at h1;exact h1
theorem tN {L:List SM}{k:Nat}{t:ByteArray}{m:SM}(b:L[k]?=T m)(h1:(m.name.toList == t.toList)=QD)(h2:∀ (j:Nat) (m:SM),j<k->L[j]?=T m->(m.name.toList == t.toList)=QB):fI L t=T k:=by have f:=(j2.1 b).1;have h:=(j2.1 b).2;unfold fI;rw[KF];refine⟨f,by rw[h];exact h1,fun j g=>?_⟩;rw[KU];exact h2 j _ g (gq (by omega))
theorem vG {L:List SM}{t:ByteArray}(h2:∀ (j:Nat) (m:SM),j<L.length->L[j]?=T m->(m.name.toList == t.toList)=QB):fI L t=Z:=by unfold fI;rw[JU];intro m f;obtain⟨j,b⟩:=JH f;exact h2 j m (j2.1 b).1 b
section
variable {w0:G}{hb:Nat}{s0 s1 md or st:QE}{making:List ByteArray}{made:List Ent}{L:List SM}
theorem tO (w:G)(t:ByteArray)(p:Nat)(c2:w.cell? (N hb 2 Z)=T md)(b:w.ownsRow p 161 6 md L.length (L.flatMap smV))(hL:L.length<=100000):Calls Tryz.prog 92 #[.pointer (T (N hb 0 Z)),U t] w fun e w'=>e=QF (J I (da (fI L t)))/\w'=w:=by
 obtain⟨R,hR⟩:∃ R,R=da (fI L t):=⟨_,rfl⟩
 rw[<-hR];have z:=ae hR;have o:=ae b;obtain⟨a,c,rfl⟩:∃ a c,md=Y a L.length c:=by
  obtain⟨_,⟨rfl,e⟩ | ⟨g,cap,x,rfl,_⟩⟩:=b
  ·exact⟨Z,0,by rw[e]⟩
  ·exact⟨_,_,rfl⟩
 obtain⟨n,hn⟩:∃ n,n=L.length:=⟨_,rfl⟩
 have u:=ae hn;rw[<-hn] at c2 hL;clear b hR hn;go_enter Tryz.func92,Tryz.ntmps92;go_wp2;go_loop [5] (fun i=>∃ k:Nat,k<=n/\i=J I k/\Hid (∀ (j:Nat) (m:SM),j<k->L[j]?=T m->(m.name.toList == t.toList)=QB)) (fun i=>n - (intOf i).toNat);case atStart=>exact⟨0,by omega,rfl,fun j m s=>absurd s (E4 _)⟩
 case round =>
  obtain⟨k,hk,rfl,q⟩:=hrel;by_cases hlt:k<n
  ·obtain⟨m,l⟩:∃ m,L[k]?=T m:=⟨_,gq (by have:=u.out;omega)⟩
   obtain⟨g,cap,x,e,-⟩:=o.2.resolve_left (fun h=>by have:=u.out;omega);simp only[IB,MV] at e;obtain⟨rfl,rfl⟩:=e;have d0:w.cell? (N g (k*6) Z)=T (U m.name):=bR o l 0 (by omega) rfl;have y:=ae l;have hI:(k:Int)<(n:Int):=by omega
   clear l;cases hb2:(m.name.toList == t.toList) with
   | true =>have r:=ae hb2;go_wp2;go_ret;exact⟨by rw[z.out,tN y.out r.out q.out];rfl,rfl⟩
   | false =>
    have r:=ae hb2;go_wp2;refine⟨⟨k+1,by omega,by go_num,fun j A s f=>?_⟩,by simp[intOf];omega⟩;by_cases e:j=k
    ·subst e;rw[y.out] at f;cases f;exact r
    ·exact q j A (by omega) f
  ·have e:k=n:=by omega
   subst e;go_wp2;go_ret;exact⟨by rw[z.out,vG (fun j m s l=>q.out j m (by have:=u.out;omega) l)];rfl,rfl⟩
theorem gG (w:G)(t:ByteArray)(h:SI w0 hb s0 s1 w making made L md or st)(hL:L.length<=100000):Calls Tryz.prog 92 #[.pointer (T (N hb 0 Z)),U t] w fun e w'=>e=QF (J I (da (fI L t)))/\w'=w:=by obtain⟨-,-,-,c2,-⟩:=h.box.facts;exact tO w t w0.heap.size c2 h.rmd hL
end
structure lA (w0:G)(S:Spc)(a0:Option Addr)(a1:Option Addr):Prop where
 src:SlSource w0 a0 S.n0 S.f0
 tgt:SlTarget w0 a1 S.n1 S.f1
 ok:SpcOk S
def ip (w0:G)(hb:Nat)(w':G)(r:ji)(b:QE):Prop:=∃ s0 s1 md or st,ShBox w' hb s0 s1 md or st r.code r.text b QD/\w'.ownsRow w0.heap.size 9 1 b r.chain.length (bZ r.chain)
structure LExt (n:Nat)(L L':List SM):Prop where
 nam:∀ (i:Nat) (m:SM),L[i]?=T m->∃ m':SM,L'[i]?=T m'/\m'.name=m.name
 sn:∀ m∈L',m.done=QD->(∃ m0∈L,m0.done=QD/\m0.sv=m.sv)∨∀ k,m.sv.ownBlock=T k->n<=k
theorem LExt.refl (n:Nat)(L:List SM):LExt n L L:=⟨fun _ m h=>⟨m,h,rfl⟩,fun m b f=>.inl ⟨m,b,f,rfl⟩⟩
theorem LExt.trans {n q:Nat}{L o b:List SM}(h:LExt n L o)(k:LExt q o b)(hn:n<=q):LExt n L b:=by
 refine⟨fun i m f=>?_,fun m f s=>?_⟩
 ·obtain⟨l,h1,g⟩:=h.nam i m f
  obtain⟨t,h2,x⟩:=k.nam i l h1;exact⟨t,h2,x.trans g⟩
 ·rcases k.sn m f s with ⟨m0,u,p,e⟩ | h1
  ·rcases h.sn m0 u p with ⟨l,h1,r,g⟩ | h1
   ·exact .inl ⟨l,h1,r,g.trans e⟩
   ·exact .inr fun k j=>h1 k (by rw[e];exact j)
  ·exact .inr fun k j=>p9 hn (h1 k j)
def iM (c:List ByteArray):ji:=⟨6,⟨#[]⟩,c⟩
def iN (d:ByteArray):ji:=⟨7,d,[]⟩
def gH (r:ji)(b:QE):QE:=QG #[J I r.code,U r.text,b]
def jo (w0:G)(hb:Nat)(s0 s1:QE)(making:List ByteArray)(L:List SM)(w:G)(e:Ending)(w':G):Out Ent->Prop
 | .inl (made',x)=>∃ b h g f,e=QF (QG #[J I (du x).code,U (du x).text,Y Z 0 0])/\SI w0 hb s0 s1 w' making made' b h g f/\fe b making made'/\LExt w.heap.size L b/\KS w0.heap.size XN w w'
 | .inr (.inl c)=>∃ a k,e=QF (gH (iM c) (Y a c.length k))/\ip w0 hb w' (iM c) (Y a c.length k)/\KS w0.heap.size XN w w'
 | .inr (.inr d)=>e=QF (gH (iN d) (Y Z 0 0))/\ip w0 hb w' (iN d) (Y Z 0 0)/\KS w0.heap.size XN w w'
def eK (S:Spc)(making:List ByteArray)(made:List Ent)(k:Nat):Prop:=made.length+201*dQ S making made+k<=50000
def MT (S:Spc)(making:List ByteArray):Prop:=∀ t∈making,(atI (nm1 S.f1) S.n1 t).isSome=QD
def mE (w0:G)(S:Spc)(hb:Nat)(s0 s1:QE)(n:Nat):Prop:=∀ making made L md or st w nm,making.length+n=60->SI w0 hb s0 s1 w making made L md or st->fe L making made->PG S making made->eK S making made 1->MT S making->au nm=QD ->
 Calls Tryz.prog 91 #[.pointer (T (N hb 0 Z)),U nm] w fun e w'=>jo w0 hb s0 s1 making L w e w' (aZ S n making made nm)
theorem eY {e:TypeId}{z:QE}{a b:Nat}(h:(Tryz.prog.info? e).map (fun i=>(i.zero,i.size,i.bytes))=T (T z,a,b)):∃ i,Tryz.prog.info? e=T i/\i.zero=T z/\i.size=a/\i.bytes=b:=by
 cases hi:Tryz.prog.info? e with
 | none=>rw[hi] at h;cases h
 | some i =>rw[hi] at h;simp only[MZ,IF,IA] at h;exact⟨i,rfl,h⟩
theorem gI:(Tryz.prog.info? 9).map (fun i=>(i.zero,i.size,i.bytes))=T (T (U ⟨#[]⟩),1,16):=by kernel_rfl
theorem xA:(Tryz.prog.info? 156).map (fun i=>(i.zero,i.size,i.bytes))=T (T (QG #[QC QB,J I 0,U ⟨#[]⟩]),3,32):=by kernel_rfl
theorem AZ:(Tryz.prog.info? 164).map (fun i=>(i.zero,i.size,i.bytes))=T (T (QG #[U ⟨#[]⟩,QC QB,QC QB]),3,24):=by kernel_rfl
theorem lB:(Tryz.prog.info? 161).map (fun i=>(i.zero,i.size,i.bytes))=T (T (QG #[U ⟨#[]⟩,J I 0,U ⟨#[]⟩,Y Z 0 0,Y Z 0 0,QC QB]),6,96):=by kernel_rfl
def lC (b:List aC):List QE:=b.flatMap fun r=>[QC r.has,J I r.code,U r.text]
theorem A8 (b:List aC)(r:aC):lC (b++[r])=lC b++[QC r.has,J I r.code,U r.text]:=by simp[lC]
theorem yU (b:List Lk)(l:Lk):dW (b++[l])=dW b++[U l.name,QC l.ask,QC l.has]:=by simp[dW]
theorem Dr {w:G}{l g c:Nat}{b:List aC}(h:w.ownsRow l 156 3 (Y (T (N g 0 Z)) b.length c) b.length (lC b)):RowReply w g 0 b.length (yL b):=by
 obtain⟨_,m,cs,hc⟩:=aj h g rfl;refine⟨m,fun i hi=>?_⟩;have n:b[i]?=T (yL b i):=by simp[yL,gq hi]
 have f:∀ j u,j<3->([Value.bool (yL b i).has,J I (yL b i).code,U (yL b i).text]:List QE)[j]?=T u->w.cell? (N g (i*3+j) Z)=T u:=fun j u o p=>by have h1:=h.cells (g:=g) rfl (i*3+j) u (by rw[lC,cK (fun r:aC=>[QC r.has,J I r.code,U r.text]) 3 (fun _=>rfl) b i j o _ n];exact p);rw[addr_add,D0] at h1;exact h1
 refine⟨?_,?_,?_⟩
 ·rw[D0];exact f 0 _ (by omega) rfl
 ·rw[D0];exact f 1 _ (by omega) rfl
 ·rw[D0];exact f 2 _ (by omega) rfl
theorem ki (w:G)(e:TypeId)(size:Nat):(w.alloc (Q #[] e)).ownsRow w.heap.size e size (Y (T (N w.heap.size 0 Z)) 0 0) 0 [] :=
 ⟨by simp,.inr ⟨w.heap.size,0,#[],rfl,j6 _,eT _ _,j6 _,DN _,by simp,by simp⟩⟩
theorem yV {S:Spc}(h:SpcOk S){tg:Nat}(g:tg<S.n1){b:List aC}(j:∀ y∈b,ce y=QD)(hl:b.length<=200):mN (S.f1 tg).act (S.f1 tg).actN (yL b) b.length=bH S tg b:=by
 unfold mN;have f:bO (yL b) b.length=QD:=by
  have:∀ k,bO (yL b) k=QD:=fun k=>by
   induction k with
   | zero=>rfl
   | succ k i=>rw[bO,i,Cd j k];rfl
  exact this _
 rw[cM (by rw[h.act tg g];simp),cM (by omega),cM (by rw[f];simp)];rfl
theorem Bb {S:Spc}(f:SpcOk S){tg:Nat}(b:tg<S.n1):∀ i,i<(S.f1 tg).actN->((S.f1 tg).act i).s.size<=maxLen:=fun i hi=>by
 have h1:=js (bN (f.act tg b)).1 hi;simp only[cy,j5] at h1;obtain⟨i1,i2,i3,i4,i5⟩:=h1;have hmt2:bP ((S.f1 tg).act i).op<=2000:=by unfold bP;split<;>omega
 unfold maxLen;omega
section
variable {w0:G}{S:Spc}{a0 a1:Option Addr}{c0 c1 hb:Nat}{md or st:QE}{making:List ByteArray}{made:List Ent}{L:List SM}
theorem oA (C:lA w0 S a0 a1)(w:G)(t:ByteArray)(f:Below w0.heap.size w0 w)(n:hb<w.heap.size)(l:w.cell? (N hb 0 Z)=T (Y a0 S.n0 c0))(m:w.cell? (N hb 1 Z)=T (Y a1 S.n1 c1)):Calls Tryz.prog 177 #[.pointer (T (N hb 0 Z)),U t] w fun e w'=>e=QF (QC (gv S t))/\Below w.heap.size w w':=by
 have x:=ae C;have q:=ae f;have hsm:=C.ok.small;obtain⟨R,hR⟩:∃ R,R=gv S t:=⟨_,rfl⟩
 rw[<-hR];have o:Hid (R=((atI (nm0 S.f0) S.n0 t).isSome || (atI (nm1 S.f1) S.n1 t).isSome)):=by show _=_;rw[hR];unfold gv;rw[ik,ik]
 clear C f hR;go_enter Tryz.func177,Tryz.ntmps177;go_wp2_with fail;refine(dU a0 S.n0 c0 a1 S.n1 c1 S.f0 t w (by omega) (x.src.below q ly)).mono ?_;rintro e r ⟨rfl,b⟩;have z:=(b.cell (p:=(N hb 0 Z)) n).trans l;have y:=(b.cell (p:=(N hb 1 Z)) n).trans m;have hl1:hb<r.heap.size:=lj n b.size;have h:=ae b;clear b l m;cases h0:atI (nm0 S.f0) S.n0 t with
 | some i =>
  have j:=ae h0;clear h0;have s:(0:Int)<=(i:Int):=by omega
  simp only[da];go_wp2;go_ret;exact⟨by rw[o.out,j.out];rfl,h⟩
 | none =>
  have j:=ae h0;clear h0;simp only[da];go_wp2_with fail;refine(eu a0 S.n0 c0 a1 S.n1 c1 S.f1 t r (by omega) (x.tgt.below (q.trans (h.mono q.size)) ly)).mono ?_;rintro e w2 ⟨rfl,b⟩;have u:=ae (h.trans (b.mono h.size));clear b z y;cases h1:atI (nm1 S.f1) S.n1 t with
  | some i =>
   have g:=ae h1;clear h1;have s:(0:Int)<=(i:Int):=by omega
   simp only[da];go_wp2;go_ret;exact⟨by rw[o.out,j.out,g.out];simp,u⟩
  | none =>have g:=ae h1;clear h1;simp only[da];go_wp2;go_ret;exact⟨by rw[o.out,j.out,g.out];rfl,u⟩
end
end Go.Proofs.YtamacmnikdejeaaGreatDoor.Vp
