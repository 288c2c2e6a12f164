import Derived.Test.YtkdimgejdocbbaaGreatDoorXB
import Derived.Test.YtkdimgejdocbbaaGreatDoorZA
import Derived.Test.YtkdimgejdocbbaaGreatDoorYG
set_option maxRecDepth 1000000
set_option maxHeartbeats 8000000
set_option linter.unusedSimpArgs false
open Go.Addr renaming mk->J
open Go.Value renaming slice->Y,string->U,int->N,bool->QA,agg->QE
open Option renaming none->Z,some->Q
open Go.Obj renaming cells->T
open Go.IntKind renaming i64->I
open Go renaming World->E,Value->QB,TypeId->QF
open Bool renaming false->D,true->QC
open Go.Ending renaming returned->QD
namespace Go.Proofs.YtkdimgejdocbbaaGreatDoor.Vp
open RowKit
structure KS (B:Nat)(X:Nat->Prop)(w w':E):Prop where
 below:Below B w w'
 blk:∀ i cs t fz,w.heap[i]?=Q (T cs t fz)->t≠9->t≠239->t≠132->¬ X i->w'.heap[i]?=w.heap[i]?
theorem KS.trans {B:Nat}{X QG:Nat->Prop}{w w' b:E}(h:KS B X w w')(k:KS B QG w' b)(g:∀ i,i<w.heap.size->QG i->X i):KS B X w b :=
 ⟨h.below.trans k.below,fun i d t fz hi h1 h2 f j=>by
  have e:=h.blk i d t fz hi h1 h2 f j;rw[<-e]
  exact k.blk i d t fz (e.trans hi) h1 h2 f fun l=>j (g i (ai hi) l)⟩
theorem KS.to {B:Nat}{w w' b:E}{X:Nat->Prop}(h:KS B X w w')(k:KS B XN w' b):KS B X w b:=h.trans k fun _ _ h=>h.elim
theorem KS.of_below {B C:Nat}{X:Nat->Prop}{w w':E}(h:Below C w w')(b:w.heap.size<=C)(d:B<=w.heap.size):KS B X w w' :=
 ⟨h.mono (j5 d b),fun i _ _ _ hi _ _ _ _=>h.block i (ll (ai hi) b)⟩
theorem KS.of_grown {B:Nat}{X:Nat->Prop}{row:Option Nat}{w w':E}(h:w.grownBy w' row)(n:B<=w.heap.size)(f:∀ j,row=Q j->B<=j/\(X j∨∀ b t fz,w.heap[j]?=Q (T b t fz)->t=9∨t=239∨t=132)):KS B X w w':=by
 refine⟨⟨h.os,h.tape,h.output,h.size,fun k g=>h.block k (ll g n) fun e=>?_⟩,fun i b t fz hi h1 h2 l m=>h.block i (ai hi) fun e=>?_⟩
 ·have:=(f k e.symm).1
  omega
 ·rcases(f i e.symm).2 with d | d
  ·exact m d
  ·rcases d b t fz hi with e | e | e
   ·exact h1 e
   ·exact h2 e
   ·exact l e
theorem KS.setCell {B:Nat}{X:Nat->Prop}(w:E){b j:Nat}(hb:B<=b)(d:X b∨∀ f t fz,w.heap[b]?=Q (T f t fz)->t=9∨t=239∨t=132)(v:QB):KS B X w (w.setCell (J b j Z) v):=by
 refine⟨(eI B w).setCell hb v,fun i f t fz hi h1 h2 g h=>?_⟩;refine qh _ _ _ _ fun e=>?_;simp at e;subst e;rcases d with d | d
 ·exact h d
 ·rcases d f t fz hi with e | e | e
  ·exact h1 e
  ·exact h2 e
  ·exact g e
def ShBox (w:E)(hb:Nat)(s0 s1 md or st:QB)(g:Int)(d:ByteArray)(f:QB)(b:Bool):Prop:=w.heap[hb]?=Q (T #[s0,s1,md,or,st,N I g,U d,f,QA b] 132 (0,0))
theorem ShBox.facts {w:E}{hb:Nat}{s0 s1 md or st f:QB}{g:Int}{d:ByteArray}{b:Bool}(h:ShBox w hb s0 s1 md or st g d f b):hb<w.heap.size/\w.cell? (J hb 0 Z)=Q s0/\w.cell? (J hb 1 Z)=Q s1/\w.cell? (J hb 2 Z)=Q md/\w.cell? (J hb 3 Z)=Q or/\w.cell? (J hb 4 Z)=Q st/\w.cell? (J hb 5 Z)=Q (N I g)/\w.cell? (J hb 6 Z)=Q (U d)/\w.cell? (J hb 7 Z)=Q f/\w.cell? (J hb 8 Z)=Q (QA b)/\∀ j,w.frozen? (J hb j Z)=D:=by unfold ShBox at h;refine⟨ai h,?_,?_,?_,?_,?_,?_,?_,?_,?_,fun j=>?_⟩;all_goals simp[World.cell?,World.frozen?,h]
theorem ShBox.blk {w w':E}{hb:Nat}{s0 s1 md or st f:QB}{g:Int}{d:ByteArray}{b:Bool}(h:ShBox w hb s0 s1 md or st g d f b)(i:w'.heap[hb]?=w.heap[hb]?):ShBox w' hb s0 s1 md or st g d f b:=i.trans h
structure SM where
 name:ByteArray
 code:Int
 text:ByteArray
 seen:List Lk
 sv:QB
 done:Bool
def smV (m:SM):List QB:=[U m.name,N I m.code,U m.text,Y Z 0 0,m.sv,QA m.done]
def eY (b:List Lk):List QB:=b.flatMap fun l=>[U l.name,QA l.ask,QA l.has]
def fI (L:List SM)(t:ByteArray):Option Nat:=L.findIdx? fun m=>m.name.toList == t.toList
structure fE (L:List SM)(making:List ByteArray)(made:List Ent):Prop where
 nod:L.Pairwise fun m m'=>m.name≠m'.name
 len:L.length=made.length+making.length
 got:∀ x∈made,∃ m∈L,m.name=x.name/\m.done=QC/\m.code=(cR x).code/\m.text=(cR x).text/\m.seen=x.looks
 mkg:∀ t∈making,∃ m∈L,m.name=t/\m.done=D
 all:∀ m∈L,(∃ x∈made,x.name=m.name)∨m.name∈making
structure SI (w0:E)(hb:Nat)(s0 s1:QB)(w:E)(making:List ByteArray)(made:List Ent)(L:List SM)(md or st:QB):Prop where
 bel:Below w0.heap.size w0 w
 hbB:w0.heap.size<=hb
 box:ShBox w hb s0 s1 md or st 0 ⟨#[]⟩ (Y Z 0 0) D
 rmd:w.ownsRow w0.heap.size 239 6 md L.length (L.flatMap smV)
 ror:w.ownsRow w0.heap.size 9 1 or made.length (bq (made.map (·.name)))
 rst:w.ownsRow w0.heap.size 9 1 st making.length (bq making)
 apart:∀ k,or.ownBlock=Q k->st.ownBlock≠Q k
 seen:∀ m∈L,m.done=QC->w.ownsRow w0.heap.size 242 3 m.sv m.seen.length (eY m.seen)
section
variable {w0 w w':E}{hb:Nat}{s0 s1 md or st:QB}{making:List ByteArray}{made:List Ent}{L:List SM}
theorem SI.lt (h:SI w0 hb s0 s1 w making made L md or st):w0.heap.size<=w.heap.size:=h.bel.size
theorem SI.below {C:Nat}(h:SI w0 hb s0 s1 w making made L md or st)(b:Below C w w')(d:w.heap.size<=C):SI w0 hb s0 s1 w' making made L md or st :=
 ⟨h.bel.trans (b.mono (j5 h.lt d)),h.hbB,h.box.blk (b.block _ (ll (ai h.box) d)),own_below h.rmd b d,own_below h.ror b d,own_below h.rst b d,h.apart,fun m g f=>own_below (h.seen m g f) b d⟩
end
def dk:Option Nat->Int
 | some i=>(i:Int)
 | none=>-1
theorem ii (g:Nat->ByteArray)(n:Nat)(t:ByteArray):aF g n t=(atI g n t).isSome:=by unfold aF atI;rw[IL,List.find?_isSome,J6]
theorem tm {g:Nat->ByteArray}{n:Nat}{t:ByteArray}(h:aF g n t=D):atI g n t=Z:=by rw[ii] at h;exact Option.isNone_iff_eq_none.1 (by simpa using h)
theorem qn {g:Nat->ByteArray}{n k:Nat}{t:ByteArray}(b:k<n)(h1:((g k).toList == t.toList)=QC)(h2:aF g k t=D):atI g n t=Q k:=by
 unfold atI;rw[List.find?_range_eq_some];refine⟨h1,BO.2 b,fun j d=>?_⟩;cases e:((g j).toList == t.toList) with
 | false=>rfl
 | true =>rw[gY d e] at h2;cases h2
theorem py (b off n0 c0:Nat)(a1:Option Addr)(n1 c1:Nat)(f:Nat->Source)(t:ByteArray)(w:E)(hn:(n0:Int)<=1048576)(n:RowSource w b off n0 f):Calls Tryz.prog 90 #[QE #[Y (Q (J b off Z)) n0 c0,Y a1 n1 c1],U t] w fun e w'=>e=QD (N I (dk (atI (nm0 f) n0 t)))/\Below w.heap.size w w':=by
 have d:=ae ((Qs w).alloc lr (T #[Y (Q (J b off Z)) n0 c0,Y a1 n1 c1] 26));have m:=ae (n.below d lr);have o:(w.alloc (T #[Y (Q (J b off Z)) n0 c0,Y a1 n1 c1] 26)).cell? (J w.heap.size 0 Z)=Q (Y (Q (J b off Z)) n0 c0):=by simp
 clear n;obtain⟨R,hR⟩:∃ R,R=dk (atI (nm0 f) n0 t):=⟨_,rfl⟩
 rw[<-hR];have l:=ae hR;clear hR;go_enter Tryz.func90,Tryz.ntmps90;go_wp2;generalize w.alloc (T #[Y (Q (J b off Z)) n0 c0,Y a1 n1 c1] 26)=W at d m o ⊢;go_loop [5] (fun i=>∃ k:Nat,k<=n0/\i=N I k/\Hid (aF (nm0 f) k t=D)) (fun i=>n0 - (intOf i).toNat);case atStart=>exact⟨0,by omega,rfl,rfl⟩
 case round =>
  obtain⟨k,hk,rfl,h⟩:=hrel;by_cases g:k<n0
  ·obtain⟨d0,d1⟩:=m.2 k g
   cases hb:((f k).name.toList == t.toList) with
   | true =>have j:=ae hb;go_wp2;go_ret;exact⟨by rw[l.out,qn g j.out h.out];rfl,d⟩
   | false =>have j:=ae hb;go_wp2;exact⟨⟨k+1,by omega,by go_num,by show aF (nm0 f) (k+1) t=D;rw[lM,h.out];exact j⟩,by simp[intOf];omega⟩
  ·have e:k=n0:=by omega
   subst e;go_wp2;go_ret;exact⟨by rw[l.out,tm h.out];rfl,d⟩
theorem pz (a0:Option Addr)(c0:Nat)(a1:Option Addr)(n1 c1:Nat)(t:ByteArray)(w:E):Calls Tryz.prog 90 #[QE #[Y a0 0 c0,Y a1 n1 c1],U t] w fun e w'=>e=QD (N I (-1))/\Below w.heap.size w w':=by
 have b:=ae ((Qs w).alloc lr (T #[Y a0 0 c0,Y a1 n1 c1] 26));go_enter Tryz.func90,Tryz.ntmps90;go_wp2;go_loop [5] (fun i=>i=N I 0) (fun _=>0);case atStart=>rfl
 case round =>subst hrel;go_wp2;go_ret;exact⟨rfl,b⟩
theorem fa (a0:Option Addr)(n0 c0:Nat)(a1:Option Addr)(n1 c1:Nat)(f:Nat->Source)(t:ByteArray)(w:E)(g:(n0:Int)<=1048576)(d:SlSource w a0 n0 f):Calls Tryz.prog 90 #[QE #[Y a0 n0 c0,Y a1 n1 c1],U t] w fun e w'=>e=QD (N I (dk (atI (nm0 f) n0 t)))/\Below w.heap.size w w':=by
 rcases d with rfl | ⟨b,off,rfl,h⟩
 ·exact pz a0 c0 a1 n1 c1 t w
 ·exact py b off n0 c0 a1 n1 c1 f t w g h
theorem pA (a0:Option Addr)(n0 c0 b off n1 c1:Nat)(f:Nat->Target)(t:ByteArray)(w:E)(hn:(n1:Int)<=1048576)(n:RowTarget w b off n1 f):Calls Tryz.prog 91 #[QE #[Y a0 n0 c0,Y (Q (J b off Z)) n1 c1],U t] w fun e w'=>e=QD (N I (dk (atI (nm1 f) n1 t)))/\Below w.heap.size w w':=by
 have d:=ae ((Qs w).alloc lr (T #[Y a0 n0 c0,Y (Q (J b off Z)) n1 c1] 26));have m:=ae (n.below d lr);have o:(w.alloc (T #[Y a0 n0 c0,Y (Q (J b off Z)) n1 c1] 26)).cell? (J w.heap.size 1 Z)=Q (Y (Q (J b off Z)) n1 c1):=by simp
 clear n;obtain⟨R,hR⟩:∃ R,R=dk (atI (nm1 f) n1 t):=⟨_,rfl⟩
 rw[<-hR];have l:=ae hR;clear hR;go_enter Tryz.func91,Tryz.ntmps91;go_wp2;generalize w.alloc (T #[Y a0 n0 c0,Y (Q (J b off Z)) n1 c1] 26)=W at d m o ⊢;go_loop [5] (fun i=>∃ k:Nat,k<=n1/\i=N I k/\Hid (aF (nm1 f) k t=D)) (fun i=>n1 - (intOf i).toNat);case atStart=>exact⟨0,by omega,rfl,rfl⟩
 case round =>
  obtain⟨k,hk,rfl,h⟩:=hrel;by_cases g:k<n1
  ·obtain⟨d0,ka,kc,d1,_⟩:=m.2 k g
   cases hb:((f k).name.toList == t.toList) with
   | true =>have j:=ae hb;go_wp2;go_ret;exact⟨by rw[l.out,qn g j.out h.out];rfl,d⟩
   | false =>have j:=ae hb;go_wp2;exact⟨⟨k+1,by omega,by go_num,by show aF (nm1 f) (k+1) t=D;rw[lM,h.out];exact j⟩,by simp[intOf];omega⟩
  ·have e:k=n1:=by omega
   subst e;go_wp2;go_ret;exact⟨by rw[l.out,tm h.out];rfl,d⟩
theorem pB (a0:Option Addr)(n0 c0:Nat)(a1:Option Addr)(c1:Nat)(t:ByteArray)(w:E):Calls Tryz.prog 91 #[QE #[Y a0 n0 c0,Y a1 0 c1],U t] w fun e w'=>e=QD (N I (-1))/\Below w.heap.size w w':=by
 have b:=ae ((Qs w).alloc lr (T #[Y a0 n0 c0,Y a1 0 c1] 26));go_enter Tryz.func91,Tryz.ntmps91;go_wp2;go_loop [5] (fun i=>i=N I 0) (fun _=>0);case atStart=>rfl
 case round =>subst hrel;go_wp2;go_ret;exact⟨rfl,b⟩
theorem fb (a0:Option Addr)(n0 c0:Nat)(a1:Option Addr)(n1 c1:Nat)(f:Nat->Target)(t:ByteArray)(w:E)(g:(n1:Int)<=1048576)(d:SlTarget w a1 n1 f):Calls Tryz.prog 91 #[QE #[Y a0 n0 c0,Y a1 n1 c1],U t] w fun e w'=>e=QD (N I (dk (atI (nm1 f) n1 t)))/\Below w.heap.size w w':=by
 rcases d with rfl | ⟨b,off,rfl,h⟩
 ·exact pB a0 n0 c0 a1 c1 t w
 ·exact pA a0 n0 c0 b off n1 c1 f t w g h
theorem mG (m:SM):(smV m).length=6:=rfl
theorem cG {w:E}{b g d:Nat}{L:List SM}(h:w.ownsRow b 239 6 (Y (Q (J g 0 Z)) L.length d) L.length (L.flatMap smV)){i:Nat}{m:SM}(f:L[i]?=Q m)(j:Nat)(k:j<6){u:QB}(l:(smV m)[j]?=Q u):w.cell? (J g (i*6+j) Z)=Q u:=by have h1:=h.cells (g:=g) rfl (i*6+j) u (by rw[cS smV 6 mG L i j k m f];exact l);rw[addr_add,C9] at h1;exact h1
theorem tr {L:List SM}{k:Nat}{t:ByteArray}{m:SM}(b:L[k]?=Q m)(h1:(m.name.toList == t.toList)=QC)(h2:∀ (j:Nat) (m:SM),j<k->L[j]?=Q m->(m.name.toList == t.toList)=D):fI L t=Q k:=by have f:=(kS.1 b).1;have d:=(kS.1 b).2;unfold fI;rw[JQ];refine⟨f,by rw[d];exact h1,fun j g=>?_⟩;rw[J8];exact h2 j _ g (gq (by omega))
theorem vj {L:List SM}{t:ByteArray}(h2:∀ (j:Nat) (m:SM),j<L.length->L[j]?=Q m->(m.name.toList == t.toList)=D):fI L t=Z:=by unfold fI;rw[JH];intro m d;obtain⟨j,b⟩:=I7 d;exact h2 j m (kS.1 b).1 b
section
variable {w0:E}{hb:Nat}{s0 s1 md or st:QB}{making:List ByteArray}{made:List Ent}{L:List SM}
theorem Bb (w:E)(t:ByteArray)(r:Nat)(c2:w.cell? (J hb 2 Z)=Q md)(b:w.ownsRow r 239 6 md L.length (L.flatMap smV))(hL:L.length<=100000):Calls Tryz.prog 190 #[.pointer (Q (J hb 0 Z)),U t] w fun e w'=>e=QD (N I (dk (fI L t)))/\w'=w:=by
 obtain⟨R,hR⟩:∃ R,R=dk (fI L t):=⟨_,rfl⟩
 rw[<-hR];have A:=ae hR;have l:=ae b;obtain⟨a,c,rfl⟩:∃ a c,md=Y a L.length c:=by
  obtain⟨_,⟨rfl,e⟩ | ⟨g,x,y,rfl,_⟩⟩:=b
  ·exact⟨Z,0,by rw[e]⟩
  ·exact⟨_,_,rfl⟩
 obtain⟨n,s⟩:∃ n,n=L.length:=⟨_,rfl⟩
 have q:=ae s;rw[<-s] at c2 hL;clear b hR s;go_enter Tryz.func190,Tryz.ntmps190;go_wp2;go_loop [5] (fun i=>∃ k:Nat,k<=n/\i=N I k/\Hid (∀ (j:Nat) (m:SM),j<k->L[j]?=Q m->(m.name.toList == t.toList)=D)) (fun i=>n - (intOf i).toNat);case atStart=>exact⟨0,by omega,rfl,fun j m p=>absurd p (CS _)⟩
 case round =>
  obtain⟨k,hk,rfl,o⟩:=hrel;by_cases hlt:k<n
  ·obtain⟨m,f⟩:∃ m,L[k]?=Q m:=⟨_,gq (by have:=q.out;omega)⟩
   obtain⟨g,x,y,e,-⟩:=l.2.resolve_left (fun h=>by have:=q.out;omega);simp only[CN,LN] at e;obtain⟨rfl,rfl⟩:=e;have d0:w.cell? (J g (k*6) Z)=Q (U m.name):=cG l f 0 (by omega) rfl;have z:=ae f;have hI:(k:Int)<(n:Int):=by omega
   clear f;cases hb2:(m.name.toList == t.toList) with
   | true =>have u:=ae hb2;go_wp2;go_ret;exact⟨by rw[A.out,tr z.out u.out o.out];rfl,rfl⟩
   | false =>
    have u:=ae hb2;go_wp2;refine⟨⟨k+1,by omega,by go_num,fun j B p d=>?_⟩,by simp[intOf];omega⟩;by_cases e:j=k
    ·subst e;rw[z.out] at d;cases d;exact u
    ·exact o j B (by omega) d
  ·have e:k=n:=by omega
   subst e;go_wp2;go_ret;exact⟨by rw[A.out,vj (fun j m p f=>o.out j m (by have:=q.out;omega) f)];rfl,rfl⟩
theorem gJ (w:E)(t:ByteArray)(h:SI w0 hb s0 s1 w making made L md or st)(hL:L.length<=100000):Calls Tryz.prog 190 #[.pointer (Q (J hb 0 Z)),U t] w fun e w'=>e=QD (N I (dk (fI L t)))/\w'=w:=by obtain⟨-,-,-,c2,-⟩:=h.box.facts;exact Bb w t w0.heap.size c2 h.rmd hL
end
structure kX (w0:E)(S:Spc)(a0:Option Addr)(a1:Option Addr):Prop where
 src:SlSource w0 a0 S.n0 S.f0
 tgt:SlTarget w0 a1 S.n1 S.f1
 ok:SpcOk S
def ij (w0:E)(hb:Nat)(w':E)(r:ResL)(b:QB):Prop:=∃ s0 s1 md or st,ShBox w' hb s0 s1 md or st r.code r.text b QC/\w'.ownsRow w0.heap.size 9 1 b r.chain.length (bq r.chain)
structure LExt (n:Nat)(L L':List SM):Prop where
 nam:∀ (i:Nat) (m:SM),L[i]?=Q m->∃ m':SM,L'[i]?=Q m'/\m'.name=m.name
 sn:∀ m∈L',m.done=QC->(∃ m0∈L,m0.done=QC/\m0.sv=m.sv)∨∀ k,m.sv.ownBlock=Q k->n<=k
theorem LExt.refl (n:Nat)(L:List SM):LExt n L L:=⟨fun _ m h=>⟨m,h,rfl⟩,fun m b d=>.inl ⟨m,b,d,rfl⟩⟩
theorem LExt.trans {n o:Nat}{L p b:List SM}(h:LExt n L p)(k:LExt o p b)(s:n<=o):LExt n L b:=by
 refine⟨fun i m f=>?_,fun m f r=>?_⟩
 ·obtain⟨j,h1,g⟩:=h.nam i m f
  obtain⟨x,h2,u⟩:=k.nam i j h1;exact⟨x,h2,u.trans g⟩
 ·rcases k.sn m f r with ⟨m0,t,q,e⟩ | h1
  ·rcases h.sn m0 t q with ⟨j,h1,l,g⟩ | h1
   ·exact .inl ⟨j,h1,l,g.trans e⟩
   ·exact .inr fun k d=>h1 k (by rw[e];exact d)
  ·exact .inr fun k d=>j5 s (h1 k d)
def jw (c:List ByteArray):ResL:=⟨6,⟨#[]⟩,c⟩
def jx (d:ByteArray):ResL:=⟨7,d,[]⟩
def gK (r:ResL)(b:QB):QB:=QE #[N I r.code,U r.text,b]
def jg (w0:E)(hb:Nat)(s0 s1:QB)(making:List ByteArray)(L:List SM)(w:E)(e:Ending)(w':E):Out Ent->Prop
 | .inl (made',x)=>∃ b g h f,e=QD (QE #[N I (cR x).code,U (cR x).text,Y Z 0 0])/\SI w0 hb s0 s1 w' making made' b g h f/\fE b making made'/\LExt w.heap.size L b/\KS w0.heap.size XN w w'
 | .inr (.inl c)=>∃ a k,e=QD (gK (jw c) (Y a c.length k))/\ij w0 hb w' (jw c) (Y a c.length k)/\KS w0.heap.size XN w w'
 | .inr (.inr d)=>e=QD (gK (jx d) (Y Z 0 0))/\ij w0 hb w' (jx d) (Y Z 0 0)/\KS w0.heap.size XN w w'
def eJ (S:Spc)(making:List ByteArray)(made:List Ent)(k:Nat):Prop:=made.length+201*dG S making made+k<=50000
def MT (S:Spc)(making:List ByteArray):Prop:=∀ t∈making,(atI (nm1 S.f1) S.n1 t).isSome=QC
def mu (w0:E)(S:Spc)(hb:Nat)(s0 s1:QB)(n:Nat):Prop:=∀ making made L md or st w nm,making.length+n=60->SI w0 hb s0 s1 w making made L md or st->fE L making made->PG S making made->eJ S making made 1->MT S making->au nm=QC ->
 Calls Tryz.prog 167 #[.pointer (Q (J hb 0 Z)),U nm] w fun e w'=>jg w0 hb s0 s1 making L w e w' (aL S n making made nm)
theorem eZ {e:QF}{z:QB}{a b:Nat}(h:(Tryz.prog.info? e).map (fun i=>(i.zero,i.size,i.bytes))=Q (Q z,a,b)):∃ i,Tryz.prog.info? e=Q i/\i.zero=Q z/\i.size=a/\i.bytes=b:=by
 cases hi:Tryz.prog.info? e with
 | none=>rw[hi] at h;cases h
 | some i =>rw[hi] at h;simp only[LF,EQ,CV] at h;exact⟨i,rfl,h⟩
theorem gL:(Tryz.prog.info? 9).map (fun i=>(i.zero,i.size,i.bytes))=Q (Q (U ⟨#[]⟩),1,16):=by kernel_rfl
theorem xu:(Tryz.prog.info? 66).map (fun i=>(i.zero,i.size,i.bytes))=Q (Q (QE #[QA D,N I 0,U ⟨#[]⟩]),3,32):=by kernel_rfl
theorem Bc:(Tryz.prog.info? 242).map (fun i=>(i.zero,i.size,i.bytes))=Q (Q (QE #[U ⟨#[]⟩,QA D,QA D]),3,24):=by kernel_rfl
theorem kY:(Tryz.prog.info? 239).map (fun i=>(i.zero,i.size,i.bytes))=Q (Q (QE #[U ⟨#[]⟩,N I 0,U ⟨#[]⟩,Y Z 0 0,Y Z 0 0,QA D]),6,96):=by kernel_rfl
def kZ (b:List aA):List QB:=b.flatMap fun r=>[QA r.has,N I r.code,U r.text]
theorem Bd (b:List aA)(r:aA):kZ (b++[r])=kZ b++[QA r.has,N I r.code,U r.text]:=by simp[kZ]
theorem yS (b:List Lk)(l:Lk):eY (b++[l])=eY b++[U l.name,QA l.ask,QA l.has]:=by simp[eY]
theorem Dx {w:E}{f g c:Nat}{b:List aA}(h:w.ownsRow f 66 3 (Y (Q (J g 0 Z)) b.length c) b.length (kZ b)):RowReply w g 0 b.length (yL b):=by
 obtain⟨_,k,cs,hc⟩:=af h g rfl;refine⟨k,fun i hi=>?_⟩;have m:b[i]?=Q (yL b i):=by simp[yL,gq hi]
 have d:∀ j u,j<3->([Value.bool (yL b i).has,N I (yL b i).code,U (yL b i).text]:List QB)[j]?=Q u->w.cell? (J g (i*3+j) Z)=Q u:=fun j u l n=>by have h1:=h.cells (g:=g) rfl (i*3+j) u (by rw[kZ,cS (fun r:aA=>[QA r.has,N I r.code,U r.text]) 3 (fun _=>rfl) b i j l _ m];exact n);rw[addr_add,C9] at h1;exact h1
 refine⟨?_,?_,?_⟩
 ·rw[C9];exact d 0 _ (by omega) rfl
 ·rw[C9];exact d 1 _ (by omega) rfl
 ·rw[C9];exact d 2 _ (by omega) rfl
theorem jW (w:E)(e:QF)(size:Nat):(w.alloc (T #[] e)).ownsRow w.heap.size e size (Y (Q (J w.heap.size 0 Z)) 0 0) 0 [] :=
 ⟨by simp,.inr ⟨w.heap.size,0,#[],rfl,j6 _,eL _ _,j6 _,CP _,by simp,by simp⟩⟩
theorem yT {S:Spc}(g:SpcOk S){tg:Nat}(f:tg<S.n1){b:List aA}(h:∀ y∈b,bT y=QC)(hl:b.length<=200):mC (S.f1 tg).act (S.f1 tg).actN (yL b) b.length=bF S tg b:=by
 unfold mC;have d:bR (yL b) b.length=QC:=by
  have:∀ k,bR (yL b) k=QC:=fun k=>by
   induction k with
   | zero=>rfl
   | succ k i=>rw[bR,i,wY h k];rfl
  exact this _
 rw[a8 (by rw[g.act tg f];simp),a8 (by omega),a8 (by rw[d];simp)];rfl
theorem Be {S:Spc}(d:SpcOk S){tg:Nat}(b:tg<S.n1):∀ i,i<(S.f1 tg).actN->((S.f1 tg).act i).s.size<=maxLen:=fun i hi=>by
 have h1:=jj (bY (d.act tg b)).1 hi;simp only[cD,j4] at h1;obtain⟨i1,i2,i3,i4,i5⟩:=h1;have hmt2:bP ((S.f1 tg).act i).op<=2000:=by unfold bP;split<;>omega
 unfold maxLen;omega
section
variable {w0:E}{S:Spc}{a0 a1:Option Addr}{c0 c1 hb:Nat}{md or st:QB}{making:List ByteArray}{made:List Ent}{L:List SM}
theorem nL (C:kX w0 S a0 a1)(w:E)(t:ByteArray)(f:Below w0.heap.size w0 w)(l:hb<w.heap.size)(k:w.cell? (J hb 0 Z)=Q (Y a0 S.n0 c0))(j:w.cell? (J hb 1 Z)=Q (Y a1 S.n1 c1)):Calls Tryz.prog 243 #[.pointer (Q (J hb 0 Z)),U t] w fun e w'=>e=QD (QA (fh S t))/\Below w.heap.size w w':=by
 have o:=ae C;have m:=ae f;have hsm:=C.ok.small;obtain⟨R,hR⟩:∃ R,R=fh S t:=⟨_,rfl⟩
 rw[<-hR];have n:Hid (R=((atI (nm0 S.f0) S.n0 t).isSome || (atI (nm1 S.f1) S.n1 t).isSome)):=by show _=_;rw[hR];unfold fh;rw[ii,ii]
 clear C f hR;go_enter Tryz.func243,Tryz.ntmps243;go_wp2_with fail;refine(fa a0 S.n0 c0 a1 S.n1 c1 S.f0 t w (by omega) (o.src.below m lr)).mono ?_;rintro e s ⟨rfl,b⟩;have x:=(b.cell (p:=(J hb 0 Z)) l).trans k;have u:=(b.cell (p:=(J hb 1 Z)) l).trans j;have hl1:hb<s.heap.size:=ll l b.size;have h:=ae b;clear b k j;cases h0:atI (nm0 S.f0) S.n0 t with
 | some i =>
  have g:=ae h0;clear h0;have r:(0:Int)<=(i:Int):=by omega
  simp only[dk];go_wp2;go_ret;exact⟨by rw[n.out,g.out];rfl,h⟩
 | none =>
  have g:=ae h0;clear h0;simp only[dk];go_wp2_with fail;refine(fb a0 S.n0 c0 a1 S.n1 c1 S.f1 t s (by omega) (o.tgt.below (m.trans (h.mono m.size)) lr)).mono ?_;rintro e w2 ⟨rfl,b⟩;have q:=ae (h.trans (b.mono h.size));clear b x u;cases h1:atI (nm1 S.f1) S.n1 t with
  | some i =>
   have d:=ae h1;clear h1;have r:(0:Int)<=(i:Int):=by omega
   simp only[dk];go_wp2;go_ret;exact⟨by rw[n.out,g.out,d.out];simp,q⟩
  | none =>have d:=ae h1;clear h1;simp only[dk];go_wp2;go_ret;exact⟨by rw[n.out,g.out,d.out];rfl,q⟩
end
theorem nM (w:E):(zeroValue 274).run Tryz.prog w=.ok (QE #[N I 0,.pointer Z]) w:=by kernel_rfl
theorem jy (made:List Ent)(nm:ByteArray):made.find? (fun e=>e.name.toList == nm.toList)=aK made nm:=rfl
theorem qp {G:ByteArray->Nat}{mm:List ByteArray}{made:List Ent}{nm:ByteArray}{e:Ent}(h:aK made nm=Q e):dw G mm made nm.toList=Q (QE #[N I 0,.pointer (Q (J (G e.name) 0 Z))]):=by unfold dw;rw[jy,h]
theorem gT {G:ByteArray->Nat}{mm:List ByteArray}{made:List Ent}{nm:ByteArray}(h:aK made nm=Z):dw G mm made nm.toList=(atL mm nm).map fun(i:Nat)=>QE #[N I (i:Int),.pointer Z]:=by unfold dw;rw[jy,h];rfl
section
variable {w0:E}{S:Spc}{mb mp:Nat}{s0 s1 mk md:QB}{mm making:List ByteArray}{made:List Ent}{G:ByteArray->Nat}{V:ByteArray->QB}
theorem Bf (w:E)(nm:ByteArray)(h:MI w0 S mb mp s0 s1 w mm making made G V mk md)(hn:nm.size<=60)(e:Ent)(b:aK made nm=Q e):Calls Tryz.prog 159 #[.pointer (Q (J mb 0 Z)),U nm] w fun r w'=>r=QD (.pointer (Q (J (G e.name) 0 Z)))/\Below w.heap.size w w':=by
 have i:=ae (show(dw G mm made nm.toList).getD (QE #[N I 0,.pointer Z])=QE #[N I 0,.pointer (Q (J (G e.name) 0 Z))] by rw[qp b];rfl);have g:=ae (show(dw G mm made nm.toList).isSome=QC by rw[qp b];rfl);have f:=ae h;obtain⟨hl,-,-,c2,-,-,-⟩:=h.box.facts;have d:nm.size<=maxLen:=by unfold maxLen;omega
 have hz:=nM;have j:=ae ((Qs w).alloc lr (T #[N I 0,.pointer (Q (J (G e.name) 0 Z))] 274));clear h b;go_enter Tryz.func159,Tryz.ntmps159
 go_wp2_with (first
  | (at_lookup;refine iv _ rfl _ _ 202 rfl 274 Tryz.underlying202 (hz _) mp _ _ rfl f.map nm rfl d _ i QC g ?_)
  | fail)
 go_ret;exact⟨rfl,j⟩
theorem us (w:E)(nm:ByteArray)(h:MI w0 S mb mp s0 s1 w making making made G V mk md)(hn:nm.size<=60)(hm:making.length<=60)(QP:aK made nm=Z)(i:Nat)(hi:atL making nm=Q i):Calls Tryz.prog 159 #[.pointer (Q (J mb 0 Z)),U nm] w fun r w'=>∃ v,r=.panicked [{ v:=.iface 269 (QE #[v]),recovered:=D }]/\w'.ownsRow w.heap.size 9 1 v (making.drop i).length (bq (making.drop i))/\Below w.heap.size w w':=by
 have HV:=ae (show(dw G making made nm.toList).getD (QE #[N I 0,.pointer Z])=QE #[N I (i:Int),.pointer Z] by rw[gT QP,hi];rfl);have QH:=ae (show(dw G making made nm.toList).isSome=QC by rw[gT QP,hi];rfl);have HM:=ae h;obtain⟨R,-,-,c2,c3,-,-⟩:=h.box.facts;have QN:i<making.length:=by unfold atL at hi;exact(List.findIdx?_eq_some_iff_findIdx_eq.1 hi).1
 obtain⟨g,b,cur,rfl,hg1,A,QO,hg4,M,O⟩:=h.rmk.2.resolve_left fun h=>by omega
 have QG:=ae (h.rmk.cells (g:=g) rfl);have QL:nm.size<=maxLen:=by unfold maxLen;omega
 have hz:=nM;have d:=ae ((Qs w).alloc lr (T #[N I (i:Int),.pointer Z] 274));have L:g<w.heap.size:=ai A;obtain⟨n,m⟩:∃ n,n=making.length:=⟨_,rfl⟩
 rw[<-m] at QN hm c3 QO;have y:=ae m;clear m;have k:=(d.cell (p:=(J mb 3 Z)) R).trans c3;have u:(w.alloc (T #[N I (i:Int),.pointer Z] 274)).cell? (J w.heap.size 0 Z)=Q (N I (i:Int)):=by simp
 clear h QP A M O hi;go_enter Tryz.func159,Tryz.ntmps159
 go_wp2_with (first
  | (at_lookup;refine iv _ rfl _ _ 202 rfl 274 Tryz.underlying202 (hz _) mp _ _ rfl HM.map nm rfl QL _ HV QC QH ?_)
  | fail)
 clear c2 c3;have B:w.heap.size<(w.alloc (T #[N I (i:Int),.pointer Z] 274)).heap.size:=by simp
 generalize w.alloc (T #[N I (i:Int),.pointer Z] 274)=t at d k u B ⊢;have hI0:(0:Int)<=(i:Int):=by omega
 have hI1:(i:Int)<=(n:Int):=by omega
 have hI2:(n:Int)<=(b:Int):=by omega
 have hcl:¬ b=i:=by omega
 have C:mb<t.heap.size:=by have:=d.size;omega
 have x:w.heap.size<t.heap.size:=B;have QM:Hid (∀ W,Below w.heap.size w W->∀ j,j<(making.drop i).length->W.cell? (J g (i+j) Z)=Q (U ((making.drop i).getD j ByteArray.empty))):=fun W hW j QK=>by
  rw[IH] at QK
  have h1:=QG.out (i+j) (U ((making.drop i).getD j ByteArray.empty)) (by
   rw[bq,ID,gq (by omega)]
   simp[vF,NG,gq (show i+j<making.length by omega)])
  exact(hW.cell (p:=(J g (i+j) Z)) L).trans (by rw[addr_add,C9] at h1;exact h1)
 refine wp_region_held_drew (S:=fun V=>V.cell? (J mb 3 Z)=Q (Y (Q (J g 0 Z)) n b)/\V.cell? (J w.heap.size 0 Z)=Q (N I (i:Int))) (by as_aux_lemma=>kernel_rfl) ⟨k,u⟩ (fun P=>?_);have o:=ae P;clear P
 iterate 7
  first | refine bS 0 (v:=?_) rfl rfl (by as_aux_lemma=>kernel_rfl) (fun _ _ _ h=>h) rfl ?_ o ?_ | refine bS 4 (v:=?_) rfl rfl (by as_aux_lemma=>kernel_rfl) (fun _ _ _ h=>h) rfl ?_ o ?_
  rotate_left
  ·(intro QJ q;obtain⟨s0,s1⟩:=q;go_simp)
   (try with_reducible rfl)
  (try simp only[Act.put,nzL])
 refine bN (i:=7) rfl (by as_aux_lemma=>kernel_rfl) (fun K QQ=>?_);go_simp;go_at_call 213;refine(Tryz.slices_Clone_string g i (n - i) (b - i) (making.drop i) _ (by rw[IH,<-y.out];exact j6 _) (by omega) (QM _ d.drew)).mono ?_;rintro e H ⟨v2,rfl,f,z,l⟩;have O2:=ae f;obtain⟨g2,cap2,cur2,rfl,X,q2⟩:=f.2.resolve_left (fun h=>z h.1);have s:Hid (Below t.heap.size t H):=⟨l.os,l.tape,l.output,l.size,l.block⟩
 clear f l X q2 z;refine QQ _ _ ⟨(s.cell (p:=(J mb 3 Z)) C).trans k,(s.cell (p:=(J w.heap.size 0 Z)) x).trans u⟩ ?_;clear QQ K o;have o:Hid (H.cell? (J mb 3 Z)=Q (Y (Q (J g 0 Z)) n b)/\H.cell? (J w.heap.size 0 Z)=Q (N I (i:Int))):=⟨(s.cell (p:=(J mb 3 Z)) C).trans k,(s.cell (p:=(J w.heap.size 0 Z)) x).trans u⟩
 (try simp only[Act.put,nzL])
 iterate 2
  refine bS 8 (v:=?_) rfl rfl (by as_aux_lemma=>kernel_rfl) (fun _ _ _ h=>h) rfl ?_ o ?_;rotate_left
  ·(intro QJ q;obtain⟨s0,s1⟩:=q;go_simp)
   (try with_reducible rfl)
  (try simp only[Act.put,nzL])
 refine bN (i:=10) rfl (by as_aux_lemma=>kernel_rfl) (fun K QQ=>?_);go_simp;refine⟨rfl,_,rfl,?_,?_⟩
 ·have h1:=aI (base':=w.heap.size) O2 d.size
  have e1:(making.drop i).length=n - i:=by rw[IH,<-y.out]
  rw[e1];rw[IY (by omega)] at h1;exact h1
 ·exact d.trans (s.mono d.size)
end
def lc {b:Type}(f:ByteArray->b)(nm:ByteArray)(v:b):ByteArray->b:=fun t=>if t.toList=nm.toList then v else f t
theorem eN {b:Type}(f:ByteArray->b)(nm:ByteArray)(v:b):lc f nm v nm=v:=eT rfl
theorem iH {b:Type}(f:ByteArray->b){nm t:ByteArray}(v:b)(h:t≠nm):lc f nm v t=f t:=a8 fun e=>h (eP e)
theorem xv {G:ByteArray->Nat}{making:List ByteArray}{made:List Ent}{nm:ByteArray}(d:aK made nm=Z)(h1:atL making nm=Z)(s:List UInt8):(if s=nm.toList then Q (QE #[N I (making.length:Int),.pointer Z]) else dw G making made s)=dw G (making++[nm]) made s:=by
 unfold dw;by_cases e:s=nm.toList
 ·subst e
  rw[eT rfl,jy,d,KU,show List.findIdx? (fun x:ByteArray=>x.toList == nm.toList) making=Z from h1];simp[LJ]
 ·rw[a8 e,KU]
  have b:(nm.toList == s)=D:=by simpa using fun h=>e h.symm
  cases made.find? (fun e=>e.name.toList == s) with
  | some x=>rfl
  | none=>simp[LJ,b]
theorem Bg {G b:ByteArray->Nat}{mm making:List ByteArray}{made:List Ent}{nm:ByteArray}{x:Ent}{d:Nat}(i:aK made nm=Z)(f:x.name=nm)(l:∀ y∈made,b y.name=G y.name)(j:b nm=d)(k:mm=making∨mm=making++[nm])(s:List UInt8):(if s=nm.toList then Q (QE #[N I 0,.pointer (Q (J d 0 Z))]) else dw G mm made s)=dw b making (made++[x]) s:=by
 unfold dw;rw[List.find?_append];by_cases e:s=nm.toList
 ·subst e
  rw[eT rfl,jy,i];simp[f,j]
 ·rw[a8 e]
  have g:(nm.toList == s)=D:=by simpa using fun h=>e h.symm
  cases hf:made.find? (fun e=>e.name.toList == s) with
  | some y =>simp only[Option.some_or];rw[l y (LA hf)]
  | none =>
   have h2:List.find? (fun e:Ent=>e.name.toList == s) [x]=Z:=by simp[f,g]
   rw[h2];rcases k with rfl | rfl
   ·rfl
   ·simp[KU,LJ,g]
section
variable {w0 w:E}{S:Spc}{mb mp:Nat}{s0 s1 mk md:QB}{mm making:List ByteArray}{made:List Ent}{G:ByteArray->Nat}{V:ByteArray->QB}
theorem EntAt.congr {d:ByteArray->Nat}{b:Nat}{v:QB}{x:Ent}(h:EntAt w0 S G w b v x)(g:∀ l∈x.looks,l.ask=QC->d l.name=G l.name):EntAt w0 S d w b v x:=by obtain⟨h1,h2,f⟩:=h;refine⟨h1,h2,?_⟩;rw[mT g];exact f
theorem MIg.added {nm:ByteArray}{x:Ent}{f cnt:Nat}{v:QB}(h:MIg w0 S mb mp s0 s1 w cnt (fun s=>if s=nm.toList then Q (QE #[N I 0,.pointer (Q (J f 0 Z))]) else dw G mm made s) making.length (bq making) (made.length+1) (jf G made++[.pointer (Q (J f 0 Z))]) made G V mk md)(C:PG S making made)(r:aK made nm=Z)(n:x.name=nm)
  (B:mm=making∨mm=making++[nm]) (u:cnt<=2*(made.length+1)+making.length) (A:EntAt w0 S G w f v x) (t:∀ y∈made,G y.name≠f) (g:∀ l∈x.looks,l.ask=QC->∃ y∈made,y.name=l.name) :
  MI w0 S mb mp s0 s1 w making making (made++[x]) (lc G nm f) (lc V nm v) mk md:=by
 have o:=dd r;have k:∀ y∈made,lc G nm f y.name=G y.name:=fun y d=>iH _ _ (o y d);have QQ:∀ y∈made,lc V nm v y.name=V y.name:=fun y d=>iH _ _ (o y d);have m:(made++[x]).length=made.length+1:=by simp
 refine⟨h.bel,h.mbB,h.mpB,h.box,h.rmk,?_,?_,fun y d=>?_,?_⟩
 ·have e:jf (lc G nm f) (made++[x])=jf G made++[.pointer (Q (J f 0 Z))]:=by
   simp only[jf,E2,LD,LQ,n,eN];rw[List.map_congr_left fun y d=>by rw[k y d]]
  rw[e,m];exact h.rmd
 ·rw[m]
  exact(h.map.mono u).congr fun s=>Bg r n k (eN _ _ _) B s
 ·rcases kP.1 d with d | d
  ·rw[k y d,QQ y d]
   refine(h.ents y d).congr fun l m g=>?_;obtain⟨i,hi⟩:=I7 d;obtain⟨j,z,_,hz,p⟩:=C.ord i y hi l m g;rw[<-p];exact k z (D0 hz)
  ·rw[j3.1 d,n,eN,eN]
   refine A.congr fun l m q=>?_;obtain⟨z,hz,p⟩:=g l m q;rw[<-p];exact k z hz
 ·rw[IX]
  refine⟨?_,LL _ _,fun a g b hb=>?_⟩
  ·exact h.dist.imp_of_mem fun {a b} g hb h=>by rw[k a g,k b hb];exact h
  ·rw[j3.1 hb,n,eN,k a g]
   exact t a g
structure Ext (n:Nat)(made made':List Ent)(G G':ByteArray->Nat)(V V':ByteArray->QB):Prop where
 pre:∃ more,made'=made++more
 same:∀ x∈made,G' x.name=G x.name/\V' x.name=V x.name
 new:∀ x∈made',x∈made∨(n<=G' x.name/\∀ k,(V' x.name).ownBlock=Q k->n<=k)
theorem Ext.refl (n:Nat)(made:List Ent)(G:ByteArray->Nat)(V:ByteArray->QB):Ext n made made G G V V:=⟨⟨[],by simp⟩,fun _ _=>⟨rfl,rfl⟩,fun _ h=>.inl h⟩
theorem Ext.mem {n:Nat}{made b:List Ent}{G d:ByteArray->Nat}{V f:ByteArray->QB}(h:Ext n made b G d V f):∀ x∈made,x∈b:=by obtain⟨more,e⟩:=h.pre;intro x g;rw[e];exact II _ g
theorem Ext.trans {n m:Nat}{a b c:List Ent}{l s r:ByteArray->Nat}{j o t:ByteArray->QB}(h:Ext n a b l s j o)(k:Ext m b c s r o t)(f:n<=m):Ext n a c l r j t:=by
 obtain⟨p,z⟩:=h.pre;obtain⟨q,C⟩:=k.pre;refine⟨⟨p++q,by rw[C,z,IA]⟩,fun x d=>?_,fun x d=>?_⟩
 ·obtain⟨B,A⟩:=h.same x d
  obtain⟨i,g⟩:=k.same x (h.mem x d);exact⟨i.trans B,g.trans A⟩
 ·rcases k.new x d with hb | ⟨h1,h2⟩
  ·obtain⟨i,g⟩:=k.same x hb
   rcases h.new x hb with y | ⟨h1,h2⟩
   ·exact .inl y
   ·exact .inr ⟨by rw[i];exact h1,by rw[g];exact h2⟩
  ·exact .inr ⟨j5 f h1,fun k u=>j5 f (h2 k u)⟩
theorem Ext.mono {n m:Nat}{a b:List Ent}{i j:ByteArray->Nat}{g f:ByteArray->QB}(h:Ext n a b i j g f)(d:m<=n):Ext m a b i j g f :=
 ⟨h.pre,h.same,fun x o=>(h.new x o).imp id fun⟨h1,h2⟩=>⟨j5 d h1,fun k l=>j5 d (h2 k l)⟩⟩
theorem Dy {n:Nat}{made:List Ent}{nm:ByteArray}{x:Ent}{d:Nat}{v:QB}(f:aK made nm=Z)(g:x.name=nm)(h1:n<=d)(h2:∀ k,v.ownBlock=Q k->n<=k):Ext n made (made++[x]) G (lc G nm d) V (lc V nm v):=by
 refine⟨⟨_,rfl⟩,fun y b=>⟨iH _ _ (dd f y b),iH _ _ (dd f y b)⟩,fun y b=>?_⟩;rcases kP.1 b with b | b
 ·exact .inl b
 ·rw[j3.1 b,g,eN,eN]
  exact .inr ⟨h1,h2⟩
theorem EU.step {w':E}{q tg:Nat}{nm:ByteArray}{o:List Lk}{v:QB}{f:List Ent}{m:ByteArray->Nat}{s:ByteArray->QB}(h:EU w0 S w q nm tg G o v made V)(p:KX w0.heap.size XN w w')(g:Ext w.heap.size made f G m V s):EU w0 S w' q nm tg m o v f s:=by
 obtain⟨⟨a,r,hb,i⟩,u,n,y,t,has⟩:=h;have A:∀ l∈o,l.ask=QC->m l.name=G l.name:=fun l j i=>by obtain⟨x,b,e⟩:=has l j i;rw[<-e];exact(g.same x b).1
 have hebl:=ai hb;refine⟨⟨a,r,(p.blk _ _ _ _ hb (by decide) (by decide) (by decide) fun h=>h).trans hb,i⟩,u,?_,fun x b=>?_,fun x b k d=>?_,fun l j i=>?_⟩
 ·rw[mT A]
  refine bI n fun k d=>?_;obtain⟨_,_,cs,z⟩:=af n k d;exact p.blk k _ _ _ z (by decide) (by decide) (by decide) fun h=>h
 ·rcases g.new x b with b | ⟨h1,_⟩
  ·rw[(g.same x b).1];exact y x b
  ·omega
 ·rcases g.new x b with b | ⟨_,h1⟩
  ·rw[(g.same x b).2];exact t x b k d
  ·intro e
   have:=h1 k e;have:=(af n k d).2.1;omega
 ·obtain⟨x,b,e⟩:=has l j i
  exact⟨x,g.mem x b,e⟩
end
structure Ctx (w0:E)(S:Spc)(a0:Option Addr)(c0:Nat)(a1:Option Addr)(c1:Nat):Prop where
 src:SlSource w0 a0 S.n0 S.f0
 tgt:SlTarget w0 a1 S.n1 S.f1
 ok:SpcOk S
 tab:Tab2 w0
 pow:Pow w0
 sz:∀ i,i<S.n0->(S.f0 i).text.size<=maxLen
def ts (w0:E)(S:Spc)(mb mp:Nat)(s0 s1:QB)(making:List ByteArray)(made:List Ent)(G:ByteArray->Nat)(V:ByteArray->QB)(w:E)(e:Ending)(w':E):Out Ent->Prop
 | .inl (made',x)=>∃ b h f g,e=QD (.pointer (Q (J (b x.name) 0 Z)))/\MI w0 S mb mp s0 s1 w' making making made' b h f g/\Ext w.heap.size made made' G b V h/\KX w0.heap.size XN w w'
 | .inr (.inl c)=>∃ v,e=.panicked [{ v:=.iface 269 (QE #[v]),recovered:=D }]/\w'.ownsRow w0.heap.size 9 1 v c.length (bq c)/\Below w0.heap.size w w'
 | .inr (.inr d)=>e=.panicked [{ v:=.iface 271 (QE #[U d]),recovered:=D }]/\Below w0.heap.size w w'
def ed (S:Spc)(making:List ByteArray)(made:List Ent)(k:Nat):Prop:=made.length+201*dG S making made+k<=50000
def ji (w0:E)(S:Spc)(mb mp:Nat)(s0 s1:QB)(n:Nat):Prop:=∀ making made G V mk md w nm,making.length+n=60->MI w0 S mb mp s0 s1 w making making made G V mk md->PG S making made->ed S making made 1->au nm=QC ->
 Calls Tryz.prog 159 #[.pointer (Q (J mb 0 Z)),U nm] w fun e w'=>ts w0 S mb mp s0 s1 making made G V w e w' (aL S n making made nm)
theorem oN {e:QF}{z:QB}{a b:Nat}(h:(Tryz.prog.info? e).map (fun i=>(i.zero,i.size,i.bytes))=Q (Q z,a,b)):∃ i,Tryz.prog.info? e=Q i/\i.zero=Q z/\i.size=a/\i.bytes=b:=by
 cases hi:Tryz.prog.info? e with
 | none=>rw[hi] at h;cases h
 | some i =>rw[hi] at h;simp only[LF,EQ,CV] at h;exact⟨i,rfl,h⟩
theorem vm:(Tryz.prog.info? 212).map (fun i=>(i.zero,i.size,i.bytes))=Q (Q (QE #[U ⟨#[]⟩,QA D,QA D,N I 0,.pointer Z]),5,40):=by kernel_rfl
theorem Bh:(Tryz.prog.info? 9).map (fun i=>(i.zero,i.size,i.bytes))=Q (Q (U ⟨#[]⟩),1,16):=by kernel_rfl
theorem Bi:(Tryz.prog.info? 124).map (fun i=>(i.zero,i.size,i.bytes))=Q (Q (.pointer Z),1,8):=by kernel_rfl
abbrev tu (t:QF):Prop:=t≠9/\t≠124/\t≠204/\t≠127/\t≠212
section
variable {w0 w:E}{S:Spc}{mb mp:Nat}{s0 s1 mk md:QB}{cnt nk np:Nat}{F:List UInt8->Option QB}{ks ps:List QB}{made:List Ent}{G:ByteArray->Nat}{V:ByteArray->QB}
theorem MIg.setOff {b:Nat}{g:Array QB}{t:QF}{fz:Nat × Nat}(h:MIg w0 S mb mp s0 s1 w cnt F nk ks np ps made G V mk md)(hb:w.heap[b]?=Q (T g t fz))(r:tu t)(z:w0.heap.size<=b)(j:Nat)(u:QB):MIg w0 S mb mp s0 s1 (w.setCell (J b j Z) u) cnt F nk ks np ps made G V mk md:=by
 have q:KX w0.heap.size (fun i=>i=b) w (w.setCell (J b j Z) u):=KX.setCell (X:=fun i=>i=b) w z (Or.inl rfl) u;obtain⟨y,A,C,s,B⟩:=r;refine h.kx q (fun i o hi m=>qh _ _ _ _ fun e=>m e) (fun e=>?_) (fun e=>?_) (fun k d e=>?_) (fun k d e=>?_) (fun x n=>⟨fun e=>?_,fun k d e=>?_⟩)
 ·subst e;exact C (ah hb h.box)
 ·obtain⟨es,c,p⟩:=h.map.isMap
  rw[e,hb] at p;cases p
 ·subst e;obtain⟨_,_,g,f⟩:=af h.rmk _ d;exact y (ah hb f)
 ·subst e;obtain⟨_,_,g,f⟩:=af h.rmd _ d;exact A (ah hb f)
 ·obtain⟨act,l,_⟩:=(h.ents x n).blk
  rw[e] at l;exact s (ah hb l)
 ·subst e;obtain⟨_,_,g,f⟩:=af (h.ents x n).row _ d;exact B (ah hb f)
theorem EU.setOff {b g tg:Nat}{nm:ByteArray}{m:List Lk}{v:QB}{f:Array QB}{t:QF}{fz:Nat × Nat}(h:EU w0 S w g nm tg G m v made V)(hb:w.heap[b]?=Q (T f t fz))(o:tu t)(j:Nat)(u:QB):EU w0 S (w.setCell (J b j Z) u) g nm tg G m v made V:=by
 obtain⟨⟨a,i,d,r⟩,n,l,q,k,has⟩:=h;obtain⟨t1,t2,t3,p,s⟩:=o;refine⟨⟨a,i,(qh _ _ _ _ fun e=>?_).trans d,r⟩,n,az l (fun e=>?_) _ _,q,k,has⟩
 ·simp at e;subst e;exact p (ah hb d)
 ·obtain⟨_,_,f,x⟩:=af l _ e;exact s (ah hb x)
theorem EU.below {w':E}{d tg C:Nat}{nm:ByteArray}{j:List Lk}{v:QB}(h:EU w0 S w d nm tg G j v made V)(hb:Below C w w')(f:w.heap.size<=C):EU w0 S w' d nm tg G j v made V:=by obtain⟨⟨a,g,b,m⟩,k,n,l,i,has⟩:=h;exact⟨⟨a,g,(hb.block _ (ll (ai b) f)).trans b,m⟩,k,own_below n hb f,l,i,has⟩
theorem EntBlk.facts {b:Nat}{nm text:ByteArray}{kind code place:Int}{act d:QB}(h:EntBlk w b nm kind code text act d place):b<w.heap.size/\w.cell? (J b 0 Z)=Q (U nm)/\w.cell? (J b 1 Z)=Q (N I kind)/\w.cell? (J b 2 Z)=Q (N I code)/\w.cell? (J b 3 Z)=Q (U text)/\w.cell? (J b 4 Z)=Q act/\w.cell? (J b 5 Z)=Q (Y Z 0 0)/\w.cell? (J b 6 Z)=Q d/\w.cell? (J b 7 Z)=Q (N I place)/\∀ j,w.frozen? (J b j Z)=D:=by unfold EntBlk at h;refine⟨ai h,?_,?_,?_,?_,?_,?_,?_,?_,fun j=>?_⟩;all_goals simp[World.cell?,World.frozen?,h]
theorem EU.tied {j:E}{b tg:Nat}{nm:ByteArray}{i:List Lk}{v v':QB}{l:Lk}(h:EU w0 S w b nm tg G i v made V)(y:l.ask=QC->∃ x∈made,x.name=l.name)(A:w.grownBy j v.ownBlock)(q:j.ownsRow w0.heap.size 212 5 v' (i.length+1) (eX G i++kW G l))(H:v'.ownBlock=v.ownBlock∨v'.ownBlock=Q w.heap.size)(QO:∀ x∈made,∀ k,(V x.name).ownBlock=Q k->k<w.heap.size):EU w0 S (j.setCell (J b 6 Z) v') b nm tg G (i++[l]) v' made V:=by
 obtain⟨⟨a,o,d,C⟩,u,p,B,s,has⟩:=h;have r:Q b≠v.ownBlock:=fun e=>by obtain⟨_,_,QP,n⟩:=af p b e.symm;exact absurd (ah d n) (by decide)
 have g:j.heap[b]?=_:=(A.block b (ai d) r).trans d;refine⟨⟨a,o,aw g v',C⟩,u,?_,B,fun x t k m=>?_,fun z hz f=>?_⟩
 ·rw[yR,cM,p7]
  refine az q (fun e=>?_) _ _;obtain⟨_,_,QP,n⟩:=af q b e;exact absurd (ah g n) (by decide)
 ·rcases H with e | e
  ·exact s x t k (by rw[<-e];exact m)
  ·rw[e] at m
   cases m
   intro QQ;have:=QO x t _ QQ;omega
 ·rcases kP.1 hz with hz | hz
  ·exact has z hz f
  ·rw[j3.1 hz] at f ⊢;exact y f
theorem MIg.tied {n:E}{m tg:Nat}{nm:ByteArray}{QP:List Lk}{v v':QB}(h:MIg w0 S mb mp s0 s1 w cnt F nk ks np ps made G V mk md)(H:EU w0 S w m nm tg G QP v made V)(y:w.grownBy n v.ownBlock):MIg w0 S mb mp s0 s1 (n.setCell (J m 6 Z) v') cnt F nk ks np ps made G V mk md/\KX w0.heap.size (fun i=>i=m∨v.ownBlock=Q i) w (n.setCell (J m 6 Z) v'):=by
 obtain⟨⟨a,cap,b,ha⟩,C,g,QQ,A,has⟩:=H;have QO:KX w0.heap.size (fun i=>i=m∨v.ownBlock=Q i) w n:=KX.of_grown y h.lt fun j z=>⟨(af g j z).1,.inl (.inr z)⟩
 have QN:KX w0.heap.size (fun i=>i=m∨v.ownBlock=Q i) n (n.setCell (J m 6 Z) v'):=KX.setCell n C (.inl (.inl rfl)) v';have u:=QO.trans QN fun _ _ h=>h;refine⟨h.kx u (fun i o hi r=>?_) (fun e=>?_) (fun e=>?_) (fun k l e=>?_) (fun k l e=>?_) (fun x q=>⟨fun e=>?_,fun k l e=>?_⟩),u⟩
 ·exact(qh _ _ _ _ fun e=>r (.inl e)).trans (y.block i (ai hi) fun e=>r (.inr e.symm))
 ·rcases e with e | e
  ·rw[<-e] at b;exact absurd (ah b h.box) (by decide)
  ·obtain⟨_,_,t,f⟩:=af g _ e;exact absurd (ah f h.box) (by decide)
 ·obtain⟨es,c,B⟩:=h.map.isMap
  rcases e with e | e
  ·unfold EntBlk at b;rw[<-e,B] at b;cases b
  ·obtain⟨_,_,t,f⟩:=af g _ e;rw[B] at f;cases f
 ·obtain⟨_,_,t,f⟩:=af h.rmk _ l
  rcases e with e | e
  ·rw[<-e] at b;exact absurd (ah b f) (by decide)
  ·obtain⟨_,_,p,d⟩:=af g _ e;exact absurd (ah f d) (by decide)
 ·obtain⟨_,_,t,f⟩:=af h.rmd _ l
  rcases e with e | e
  ·rw[<-e] at b;exact absurd (ah b f) (by decide)
  ·obtain⟨_,_,p,d⟩:=af g _ e;exact absurd (ah f d) (by decide)
 ·rcases e with e | e
  ·exact QQ x q e
  ·obtain⟨act,s,_⟩:=(h.ents x q).blk
   obtain⟨_,_,p,d⟩:=af g _ e;exact absurd (ah s d) (by decide)
 ·rcases e with e | e
  ·obtain⟨_,_,p,d⟩:=af (h.ents x q).row _ l
   rw[<-e] at b;exact absurd (ah b d) (by decide)
  ·exact A x q k e l
theorem MIg.vlt (h:MIg w0 S mb mp s0 s1 w cnt F nk ks np ps made G V mk md):∀ x∈made,∀ k,(V x.name).ownBlock=Q k->k<w.heap.size:=fun x d k b=>(af (h.ents x d).row k b).2.1
end
end Go.Proofs.YtkdimgejdocbbaaGreatDoor.Vp
namespace Go.Proofs.YtkdimgejdocbbaaGreatDoor.Vp
open RowKit Ca
theorem bX {w:E}{d size n:Nat}{e:QF}{v:QB}{f:List QB}(h:w.ownsRow d e size v n f):∃ a b,v=Y a n b:=by
 obtain⟨_,⟨rfl,rfl⟩ | ⟨g,b,cur,rfl,_⟩⟩:=h
 ·exact⟨Z,0,rfl⟩
 ·exact⟨_,_,rfl⟩
theorem vo (w:E)(g d i f k:QB)(t:QF):∀ j u,[g,d,i,f,k][j]?=Q u->(w.alloc (T #[g,d,i,f,k] t)).cell? (((J w.heap.size 0 Z):Addr).add j)=Q u:=by
 intro j u h;rw[addr_add];have hj:j<5:=by
  rcases IW j 5 with b | b
  ·exact b
  ·rw[IP (by simp;omega)] at h;cases h
 rcases(show j=0∨j=1∨j=2∨j=3∨j=4 by omega) with rfl | rfl | rfl | rfl | rfl;all_goals
  simp at h;subst h;simp
section
variable {w0:E}{S:Spc}{a0 a1:Option Addr}{c0 c1 mb mp:Nat}{mk md:QB}{making:List ByteArray}{made:List Ent}{G:ByteArray->Nat}{V:ByteArray->QB}
def RepSt (w0:E)(S:Spc)(mb mp:Nat)(s0 s1:QB)(w w':E)(making:List ByteArray)(made:List Ent)(G:ByteArray->Nat)(V:ByteArray->QB)(mk md:QB)(b tg:Nat)(nm:ByteArray)(f:List Lk)(v d:QB):Prop :=
 MI w0 S mb mp s0 s1 w' making making made G V mk md/\EU w0 S w' b nm tg G f d made V/\KX w0.heap.size (fun i=>i=b∨v.ownBlock=Q i) w w'/\∀ k,d.ownBlock=Q k->v.ownBlock=Q k∨w.heap.size<=k
theorem RepSt.set {w W:E}{s0 s1:QB}{f tg rb:Nat}{nm:ByteArray}{l:List Lk}{v m:QB}{d:Array QB}{t:QF}(h:RepSt w0 S mb mp s0 s1 w W making made G V mk md f tg nm l v m)(hb:W.heap[rb]?=Q (T d t (0,0)))(g:tu t)(k:w0.heap.size<=w.heap.size)(b:w.heap.size<=rb)(j:Nat)(u:QB):RepSt w0 S mb mp s0 s1 w (W.setCell (J rb j Z) u) making made G V mk md f tg nm l v m/\(W.setCell (J rb j Z) u).heap[rb]?=Q (T (d.setIfInBounds j u) t (0,0)) :=
 ⟨⟨h.1.setOff hb g (j5 k b) j u,h.2.1.setOff hb g j u,h.2.2.1.trans (KX.setCell (X:=fun i=>i=rb) W (j5 k b) (Or.inl rfl) u) (fun i hi e=>by have e2:i=rb:=e;omega),h.2.2.2⟩,aw hb u⟩
theorem cV {w:E}{b:Nat}{f d g:QB}{t:QF}(h:w.heap[b]?=Q (T #[f,d,g] t (0,0))):b<w.heap.size/\w.cell? (J b 0 Z)=Q f/\w.cell? (J b 1 Z)=Q d/\w.cell? (J b 2 Z)=Q g/\∀ j,w.frozen? (J b j Z)=D:=by refine⟨ai h,?_,?_,?_,fun j=>?_⟩;all_goals simp[World.cell?,World.frozen?,h]
def Fc (w W:E)(c0 c1 c2 c3 c4 c5:QB):Prop:=Hid (Below w.heap.size w W)/\W.cell? (J w.heap.size 3 Z)=Q c3/\W.cell? (J w.heap.size 4 Z)=Q c4/\W.heap.size=w.heap.size+2/\Hid (W.heap[w.heap.size+1]?=Q (T #[QA D,N I 0,U ⟨#[]⟩] 66 (0,0)))/\Hid (W.heap[w.heap.size]?=Q (T #[c0,c1,c2,c3,c4,c5] 61 (0,0)))
theorem vq (w:E)(c0 c1 c2 c3 c4 c5:QB):Fc w ((w.alloc (T #[c0,c1,c2,c3,c4,c5] 61)).alloc (T #[QA D,N I 0,U ⟨#[]⟩] 66)) c0 c1 c2 c3 c4 c5:=by refine⟨((Qs w).alloc lr _).alloc (by simp) _,by simp[go_sem],by simp[go_sem],by simp,?_,(((eI (w.heap.size+1) _).alloc (by simp) _).block w.heap.size (by omega)).trans (eL w _)⟩;have h2:=eL (w.alloc (T #[c0,c1,c2,c3,c4,c5] 61)) (T #[QA D,N I 0,U ⟨#[]⟩] 66);rw[show(w.alloc (T #[c0,c1,c2,c3,c4,c5] 61)).heap.size=w.heap.size+1 by simp] at h2;exact h2
theorem yU (C:Ctx w0 S a0 c0 a1 c1)(w:E)(b tg:Nat)(nm:ByteArray)(d:List Lk)(v:QB)(QK:Turn)(h:MI w0 S mb mp (Y a0 S.n0 c0) (Y a1 S.n1 c1) w making making made G V mk md)(L:EU w0 S w b nm tg G d v made V)(hls:d.length<=200)(R:QK.ask=D):Calls Tryz.prog 282 #[.pointer (Q (J mb 0 Z)),.pointer (Q (J b 0 Z)),QK.v] w fun e w'=>e=QD (QE #[QA (fh S QK.name),N I 0,U ⟨#[]⟩])/\∃ v',RepSt w0 S mb mp (Y a0 S.n0 c0) (Y a1 S.n1 c1) w w' making made G V mk md b tg nm (d++[⟨QK.name,D,fh S QK.name⟩]) v v':=by
 obtain⟨i1,hi,ph,sm,n6⟩:=oN vm;obtain⟨m,o,rfl⟩:=bX L.row;obtain⟨over,code,text,ask,name,steps⟩:=QK;simp only at R;subst R;obtain⟨QO,ld,y,n9,kr,-⟩:=vq w (QA over) (N I code) (U text) (QA D) (U name) (N I steps);have M:=ae (h.below QO lr);have U0:=ae (L.below QO lr);have QN:=ae C;have QQ:w0.heap.size<=w.heap.size:=h.lt;have heb0:b<w.heap.size:=by obtain⟨⟨aa,ca,g,W⟩,-⟩:=L;exact ai g
 have ro:Hid (Q (w.heap.size+1)≠(Value.slice m d.length o).ownBlock):=fun e=>by have:=(af L.row _ e.symm).2.1;omega
 have TN:Hid (Q w.heap.size≠(Value.slice m d.length o).ownBlock):=fun e=>by have:=(af L.row _ e.symm).2.1;omega
 clear h L C;show Calls Tryz.prog 282 #[.pointer (Q (J mb 0 Z)),.pointer (Q (J b 0 Z)),QE #[QA over,N I code,U text,QA D,U name,N I steps]] w _;obtain⟨hb,QL⟩:∃ hb,hb=fh S name:=⟨_,rfl⟩
 have mv:=ae QL;rw[<-QL];clear QL;go_enter Tryz.func282,Tryz.ntmps282;go_wp2_with fail;clear ld;generalize (w.alloc (T #[QA over,N I code,U text,QA D,U name,N I steps] 61)).alloc (T #[QA D,N I 0,U ⟨#[]⟩] 66)=W0 at QO y n9 kr M U0 ⊢;obtain⟨QP,m0,QH,-⟩:=M.box.facts;refine wp_region_held_drew (S:=fun V=>V.cell? (J mb 0 Z)=Q (Y a0 S.n0 c0)/\V.cell? (J mb 1 Z)=Q (Y a1 S.n1 c1)/\V.cell? (J w.heap.size 4 Z)=Q (U name)) (by as_aux_lemma=>kernel_rfl) ⟨m0,QH,y⟩ (fun hS=>?_);have n:=ae hS;clear hS
 iterate 6
  first | refine bS 0 (v:=?_) rfl rfl (by as_aux_lemma=>kernel_rfl) (fun _ _ _ h=>h) rfl ?_ n ?_ | refine bS 4 (v:=?_) rfl rfl (by as_aux_lemma=>kernel_rfl) (fun _ _ _ h=>h) rfl ?_ n ?_
  rotate_left
  ·(intro wz z;obtain⟨s0,s1,s2⟩:=z;go_simp)
   (try with_reducible rfl)
  (try simp only[Act.put,nzL])
 refine bN (i:=6) rfl (by as_aux_lemma=>kernel_rfl) (fun K j=>?_);go_simp;go_at_call 88;have P:Hid (Below w0.heap.size w0 W0.drew):=M.bel.drew;refine(o8 a0 S.n0 c0 S.f0 a1 S.n1 c1 S.f1 name _ (by have:=QN.ok.small;omega) (by have:=QN.ok.small;omega) (QN.src.below P lr) (QN.tgt.below P lr) QN.ok.asc0 QN.ok.asc1).mono ?_;rintro e f ⟨he,H⟩;rw[show(aF (nm0 S.f0) S.n0 name || aF (nm1 S.f1) S.n1 name)=hb from mv.symm] at he;subst he;have q:Hid (Below W0.heap.size W0 f):=⟨H.os,H.tape,H.output,H.size,H.block⟩
 clear H P;have ex:w.heap.size<W0.heap.size:=by omega
 refine j _ _ ⟨(q.cell (p:=(J mb 0 Z)) QP).trans m0,(q.cell (p:=(J mb 1 Z)) QP).trans QH,(q.cell (p:=(J w.heap.size 4 Z)) ex).trans y⟩ ?_;clear j K n;have n:Hid (f.cell? (J mb 0 Z)=Q (Y a0 S.n0 c0)/\f.cell? (J mb 1 Z)=Q (Y a1 S.n1 c1)/\f.cell? (J w.heap.size 4 Z)=Q (U name)):=⟨(q.cell (p:=(J mb 0 Z)) QP).trans m0,(q.cell (p:=(J mb 1 Z)) QP).trans QH,(q.cell (p:=(J w.heap.size 4 Z)) ex).trans y⟩
 (try simp only[Act.put,nzL])
 refine bS 7 (v:=?_) rfl rfl (by as_aux_lemma=>kernel_rfl) (fun _ _ _ h=>h) rfl ?_ n ?_;rotate_left
 ·(intro wz z;obtain⟨s0,s1,s2⟩:=z;go_simp)
  (try with_reducible rfl)
 (try simp only[Act.put,nzL])
 refine wpAnyH_done (by as_aux_lemma=>kernel_rfl) ?_ _;have A1:=ae (QO.trans (q.mono QO.size));have KW:=ae (KX.of_below (X:=XN) A1 lr QQ);have M1:=ae (M.below q lr);have O:=ae (U0.below q lr);have n4:=n.2.2;have n8:Hid (f.heap[w.heap.size+1]?=Q (T #[QA D,N I 0,U ⟨#[]⟩] 66 (0,0))):=(q.block _ (by omega)).trans kr;have hz1:w.heap.size+2<=f.heap.size:=by have:=q.size;omega
 clear n m0 QH y M U0 kr QO;go_wp2_with fail;obtain⟨⟨aa,ca,g,W⟩,-⟩:=O.out;obtain⟨fd,-,-,-,-,-,-,e6,-,ef⟩:=g.facts;have ef6:=ef 6;have hebB:w0.heap.size<=b:=O.ge;clear g W ef;have SQ:Hid (∀ V:E,(∀ k,k<f.heap.size->Q k≠(Value.slice m d.length o).ownBlock->V.heap[k]?=f.heap[k]?)->V.cell? (J b 6 Z)=Q (Y m d.length o)/\V.cell? (J w.heap.size 4 Z)=Q (U name)):=fun V hV=>by
  have x:Q b≠(Value.slice m d.length o).ownBlock:=fun e=>by obtain⟨⟨aa,ca,g,W⟩,-⟩:=O.out;obtain⟨_,_,cs,hc⟩:=af O.row b e.symm;exact absurd (ah g hc) (by decide)
  have la:Q w.heap.size≠(Value.slice m d.length o).ownBlock:=TN.out;exact⟨(cq (a:=(J b 6 Z)) (hV b fd x)).trans e6,(cq (a:=(J w.heap.size 4 Z)) (hV w.heap.size (by omega) la)).trans n4⟩
 have n:=ae (SQ f.drew (fun k u _=>rfl));have UD:Hid (EU w0 S f.drew b nm tg G d (Y m d.length o) made V):=O.below br.drew lr;have MD:Hid (MI w0 S mb mp (Y a0 S.n0 c0) (Y a1 S.n1 c1) f.drew making making made G V mk md):=M1.below br.drew lr;refine bm (fun V=>V.cell? (J b 6 Z)=Q (Y m d.length o)/\V.cell? (J w.heap.size 4 Z)=Q (U name)) 14 (by as_aux_lemma=>kernel_rfl) ?_;clear e6 n4
 iterate 10
  first | refine bw 0 (v:=?_) rfl rfl (by as_aux_lemma=>kernel_rfl) (fun _ _ _ h=>h) rfl ?_ n ?_ | refine bw 5 (v:=?_) rfl rfl (by as_aux_lemma=>kernel_rfl) (fun _ _ _ h=>h) rfl ?_ n ?_
  rotate_left
  ·(intro wz z;obtain⟨s0,s1⟩:=z;go_simp)
   (try with_reducible rfl)
  (try simp only[Act.put,nzL])
 refine ar (i:=10) rfl (by as_aux_lemma=>kernel_rfl) (fun K j=>?_);go_simp;have AB:=ae ((eI f.heap.size f.drew).alloc lr (T #[U name,QA D,QA hb,N I 0,.pointer Z] 212));have QJ:=ae (UD.below AB lr);have MA:=ae (MD.below AB lr);refine j _ _ (fun _=>SQ _ (fun k u _=>AB.block k u)) ?_;clear j K
 (try simp only[Act.put,nzL])
 refine ar (i:=11) rfl (by as_aux_lemma=>kernel_rfl) (fun K j=>?_);refine bA rfl (.tmp 23) (.tmp 29) 125 rfl w0.heap.size 212 i1 (QE #[U ⟨#[]⟩,QA D,QA D,N I 0,.pointer Z]) 5 40 Tryz.underlying125 hi ph sm n6 rfl (by decide) (Y m d.length o) d.length (eX G d) (by simp[Act.eval]) QJ.row (J f.heap.size 0 Z) 1 1 [U name,QA D,QA hb,N I 0,.pointer Z] (by simp[Act.eval]) rfl (vo f.drew _ _ _ _ _ _) (by simp[Value.oneCell']) (by unfold maxLen;omega) (by omega) MA.lt ?_;intro v' A B t aq;have O3:=ae B;have QM:=ae t;have bt:=ae aq;have S3:=ae (SQ A (fun k u x=>(t.block k (ll u (by simp<;>omega)) x).trans (AB.block k u)));obtain⟨r,s,rfl⟩:=bX B;clear B t aq;refine j _ _ (fun _=>S3) ?_;clear j K n
 (try simp only[Act.put,nzL])
 iterate 2
  refine df 12 rfl rfl (by as_aux_lemma=>kernel_rfl) (fun K j=>?_);go_simp;refine j _ _ (fun _=>S3) ?_;clear j K
  (try simp only[Act.put,nzL])
 have M4:=ae (MA.tied QJ QM (v':=Y r (d.length+1) s));have U4:=ae (QJ.tied (l:=⟨name,D,hb⟩) (fun h=>by cases h) QM.out O3.out bt.out MA.vlt);have s6:=S3.1;have qr:A.frozen? (J b 6 Z)=D:=by
  obtain⟨⟨aa,ca,g,W⟩,-⟩:=QJ.out;have x:Q b≠(Value.slice m d.length o).ownBlock:=fun e=>by obtain⟨_,_,cs,hc⟩:=af QJ.row b e.symm;exact absurd (ah g hc) (by decide)
  exact(DC (a:=(J b 6 Z)) (QM.block b (ai g) x)).trans (g.facts.2.2.2.2.2.2.2.2.2 6)
 have n7:f.heap.size<=A.heap.size:=j5 (by simp<;>omega) QM.size;have hel3:b<A.heap.size:=ll fd n7;refine ar (i:=14) rfl (by as_aux_lemma=>kernel_rfl) (fun K j=>?_);go_simp;refine j _ _ (fun h=>absurd rfl h) ?_;clear j K s6 qr
 (try simp only[Act.put,nzL])
 refine bJ (by as_aux_lemma=>kernel_rfl) ?_ _;have RB:Hid ((A.setCell (J b 6 Z) (Y r (d.length+1) s)).heap[w.heap.size+1]?=Q (T #[QA D,N I 0,U ⟨#[]⟩] 66 (0,0))):=(qh _ _ _ _ (show w.heap.size+1≠b by omega)).trans ((QM.block _ (ll (show w.heap.size+1<f.heap.size by omega) (by simp<;>omega)) ro).trans ((AB.block _ (by omega)).trans n8));have R4:Hid (RepSt w0 S mb mp (Y a0 S.n0 c0) (Y a1 S.n1 c1) w (A.setCell (J b 6 Z) (Y r (d.length+1) s)) making made G V mk md b tg nm (d++[⟨name,D,hb⟩]) (Y m d.length o) (Y r (d.length+1) s)):=by
  refine⟨M4.1,U4,?_,fun k u=>?_⟩
  ·exact((KW.to (KX.of_below (X:=XN) (⟨AB.os,AB.tape,AB.output,AB.size,AB.block⟩:Below f.heap.size f _) lr (by omega))).weak).trans M4.2 (fun _ _ h=>h)
  ·rcases bt.out with e | e
   ·exact .inl (by rw[<-e];exact u)
   ·rw[e] at u
    cases u
    exact .inr (j5 (show w.heap.size<=f.heap.size by omega) (by simp<;>omega))
 generalize A.setCell (J b 6 Z) (Y r (d.length+1) s)=W4 at RB R4 ⊢;obtain⟨rl,r0,r1,r2,QG⟩:=cV RB;have rf0:=QG 0;have rf1:=QG 1;have rf2:=QG 2;clear QG M4 U4;go_wp2_with fail;refine bp (v:=QE #[QA hb,N I 0,U ⟨#[]⟩]) (by simp[results,Tryz.results282,go_sem,r0,r1,r2]) rfl ⟨rfl,Y r (d.length+1) s,?_⟩;have X0:=R4.set RB.out (by decide) QQ (AS _) 0 (QA hb);have X1:=X0.1.set X0.2 (by decide) QQ (AS _) 1 (N I 0);have X2:=X1.1.set X1.2 (by decide) QQ (AS _) 2 (U ⟨#[]⟩);exact X2.1
def vr (w0:E)(S:Spc)(mb mp:Nat)(s0 s1:QB)(making:List ByteArray)(made:List Ent)(G:ByteArray->Nat)(V:ByteArray->QB)(w:E)(i tg:Nat)(nm name:ByteArray)(j:List Lk)(v:QB)(e:Ending)(w':E):Out Ent->Prop
 | .inl (made',x)=>e=QD (QE #[QA (decide (¬ x.kind=2)),N I x.code,U x.text])/\∃ b f g h k,RepSt w0 S mb mp s0 s1 w w' making made' b f g h i tg nm (j++[⟨name,QC,D⟩]) v k/\Ext w.heap.size made made' G b V f
 | .inr (.inl c)=>∃ v,e=.panicked [{ v:=.iface 269 (QE #[v]),recovered:=D }]/\w'.ownsRow w0.heap.size 9 1 v c.length (bq c)/\Below w0.heap.size w w'
 | .inr (.inr d)=>e=.panicked [{ v:=.iface 271 (QE #[U d]),recovered:=D }]/\Below w0.heap.size w w'
theorem yV (C:Ctx w0 S a0 c0 a1 c1)(n:Nat)(HL:ji w0 S mb mp (Y a0 S.n0 c0) (Y a1 S.n1 c1) n)(w:E)(f tg:Nat)(nm:ByteArray)(b:List Lk)(v:QB)(QK:Turn)(ro:making.length+n=60)(h:MI w0 S mb mp (Y a0 S.n0 c0) (Y a1 S.n1 c1) w making making made G V mk md)(hp:PG S making made)(ex:ed S making made 1)(QL:EU w0 S w f nm tg G b v made V)(hls:b.length<=200)(QH:QK.ask=QC)(hn:au QK.name=QC):Calls Tryz.prog 282 #[.pointer (Q (J mb 0 Z)),.pointer (Q (J f 0 Z)),QK.v] w fun e w'=>vr w0 S mb mp (Y a0 S.n0 c0) (Y a1 S.n1 c1) making made G V w f tg nm QK.name b v e w' (aL S n making made QK.name):=by
 obtain⟨i1,hi,Fd,Bk,At⟩:=oN vm;obtain⟨r,p,rfl⟩:=bX QL.row;obtain⟨over,code,text,ask,name,steps⟩:=QK;simp only at QH hn;subst QH;obtain⟨QJ,DA,DE,Fk,kr,kt⟩:=vq w (QA over) (N I code) (U text) (QA QC) (U name) (N I steps);have M0:=ae (h.below QJ lr);have U0:=ae (QL.below QJ lr);have CC:=ae C;have th:=ae HL;have PP:=ae hp;have z:w0.heap.size<=w.heap.size:=h.lt;have heb0:f<w.heap.size:=by obtain⟨⟨W,ca,g,ha⟩,-⟩:=QL;exact ai g
 have Fl:Hid (Q (w.heap.size+1)≠(Value.slice r b.length p).ownBlock):=fun e=>by have:=(af QL.row _ e.symm).2.1;omega
 have TN:Hid (Q w.heap.size≠(Value.slice r b.length p).ownBlock):=fun e=>by have:=(af QL.row _ e.symm).2.1;omega
 clear h QL C HL hp;show Calls Tryz.prog 282 #[.pointer (Q (J mb 0 Z)),.pointer (Q (J f 0 Z)),QE #[QA over,N I code,U text,QA QC,U name,N I steps]] w _;obtain⟨R,hR⟩:∃ R,R=aL S n making made name:=⟨_,rfl⟩
 have HR:=ae hR;simp only;rw[<-hR];clear hR;go_enter Tryz.func282,Tryz.ntmps282;go_wp2_with fail;clear DA DE;generalize (w.alloc (T #[QA over,N I code,U text,QA QC,U name,N I steps] 61)).alloc (T #[QA D,N I 0,U ⟨#[]⟩] 66)=W0 at QJ Fk kr kt M0 U0 ⊢;refine(th making made G V mk md W0 name ro M0 PP ex hn).mono ?_;intro e m s;rw[<-HR.out] at s;rcases R with ⟨o,x⟩ | c | d
 ·obtain⟨QN,V',O,P,rfl,hM,hE,j⟩:=s
  obtain⟨sm,-,hx,bt⟩:=cP CC.ok n making made name o x PP hn HR.symm;have M1:=ae hM;have QG:=ae (U0.step j hE);have E1:=ae (hE.mono (show w.heap.size<=W0.heap.size by omega));have KW:=ae ((KX.of_below (X:=XN) QJ lr z).to j);have HX:=ae hx;have n6:=ae bt;have hz1:w.heap.size+2<=m.heap.size:=by have:=j.below.size;omega
  have DQ:Hid (m.heap[w.heap.size+1]?=Q (T #[QA D,N I 0,U ⟨#[]⟩] 66 (0,0))):=(j.blk _ _ _ _ kr (by decide) (by decide) (by decide) fun h=>h).trans kr;have fd:=(j.blk _ _ _ _ kt (by decide) (by decide) (by decide) fun h=>h).trans kt;have n4:m.cell? (J w.heap.size 4 Z)=Q (U name):=by simp[World.cell?,fd]
  rw[bt];clear hM hE j hx bt sm fd M0 U0 kr kt;go_wp2_with fail;obtain⟨⟨W,ca,g,ha⟩,-⟩:=QG.out;obtain⟨ld,-,-,-,-,-,-,e6,-,ef⟩:=g.facts;have ef6:=ef 6;have hebB:w0.heap.size<=f:=QG.ge;clear g ha ef;have SQ:Hid (∀ V:E,(∀ k,k<m.heap.size->Q k≠(Value.slice r b.length p).ownBlock->V.heap[k]?=m.heap[k]?)->V.cell? (J f 6 Z)=Q (Y r b.length p)/\V.cell? (J w.heap.size 4 Z)=Q (U name)):=fun V hV=>by
   have H:Q f≠(Value.slice r b.length p).ownBlock:=fun e=>by obtain⟨⟨W,ca,g,ha⟩,-⟩:=QG.out;obtain⟨_,_,cs,hc⟩:=af QG.row f e.symm;exact absurd (ah g hc) (by decide)
   have qr:Q w.heap.size≠(Value.slice r b.length p).ownBlock:=TN.out;exact⟨(cq (a:=(J f 6 Z)) (hV f ld H)).trans e6,(cq (a:=(J w.heap.size 4 Z)) (hV w.heap.size (by omega) qr)).trans n4⟩
  have HS:=ae (SQ m.drew (fun k QQ _=>rfl));have UD:Hid (EU w0 S m.drew f nm tg QN b (Y r b.length p) o V'):=QG.below br.drew lr;have MD:Hid (MI w0 S mb mp (Y a0 S.n0 c0) (Y a1 S.n1 c1) m.drew making making o QN V' O P):=M1.below br.drew lr;refine bm (fun V=>V.cell? (J f 6 Z)=Q (Y r b.length p)/\V.cell? (J w.heap.size 4 Z)=Q (U name)) 14 (by as_aux_lemma=>kernel_rfl) ?_;clear e6 n4
  iterate 10
   first | refine bw 0 (v:=?_) rfl rfl (by as_aux_lemma=>kernel_rfl) (fun _ _ _ h=>h) rfl ?_ HS ?_ | refine bw 5 (v:=?_) rfl rfl (by as_aux_lemma=>kernel_rfl) (fun _ _ _ h=>h) rfl ?_ HS ?_
   rotate_left
   ·(intro wz Fj;obtain⟨s0,s1⟩:=Fj;go_simp)
    (try with_reducible rfl)
   (try simp only[Act.put,nzL])
  refine ar (i:=10) rfl (by as_aux_lemma=>kernel_rfl) (fun K j=>?_);go_simp;have AB:=ae ((eI m.heap.size m.drew).alloc lr (T #[U name,QA QC,QA D,N I 0,.pointer (Q (J (QN name) 0 Z))] 212));have UA:=ae (UD.below AB lr);have MA:=ae (MD.below AB lr);refine j _ _ (fun _=>SQ _ (fun k QQ _=>AB.block k QQ)) ?_;clear j K
  (try simp only[Act.put,nzL])
  refine ar (i:=11) rfl (by as_aux_lemma=>kernel_rfl) (fun K j=>?_);refine bA rfl (.tmp 43) (.tmp 49) 125 rfl w0.heap.size 212 i1 (QE #[U ⟨#[]⟩,QA D,QA D,N I 0,.pointer Z]) 5 40 Tryz.underlying125 hi Fd Bk At rfl (by decide) (Y r b.length p) b.length (eX QN b) (by simp[Act.eval]) UA.row (J m.heap.size 0 Z) 1 1 [U name,QA QC,QA D,N I 0,.pointer (Q (J (QN name) 0 Z))] (by simp[Act.eval]) rfl (vo m.drew _ _ _ _ _ _) (by simp[Value.oneCell']) (by unfold maxLen;omega) (by omega) MA.lt ?_;intro v' QM L A mv;have O3:=ae L;have G3:=ae A;have n7:=ae mv;have S3:=ae (SQ QM (fun k QQ H=>(A.block k (ll QQ (by simp<;>omega)) H).trans (AB.block k QQ)));obtain⟨t,y,rfl⟩:=bX L;clear L A mv;refine j _ _ (fun _=>S3) ?_;clear j K HS
  (try simp only[Act.put,nzL])
  iterate 2
   refine df 12 rfl rfl (by as_aux_lemma=>kernel_rfl) (fun K j=>?_);go_simp;refine j _ _ (fun _=>S3) ?_;clear j K
   (try simp only[Act.put,nzL])
  have M4:=ae (MA.tied UA G3 (v':=Y t (b.length+1) y));have U4:=ae (UA.tied (l:=⟨name,QC,D⟩) (fun _=>⟨x,HX,n6⟩) G3 O3 n7 MA.vlt);have s6:=S3.1;have Fh:QM.frozen? (J f 6 Z)=D:=by
   obtain⟨⟨W,ca,g,ha⟩,-⟩:=UA.out;have H:Q f≠(Value.slice r b.length p).ownBlock:=fun e=>by obtain⟨_,_,cs,hc⟩:=af UA.row f e.symm;exact absurd (ah g hc) (by decide)
   exact(DC (a:=(J f 6 Z)) (G3.block f (ai g) H)).trans (g.facts.2.2.2.2.2.2.2.2.2 6)
  have ur:m.heap.size<=QM.heap.size:=j5 (by simp<;>omega) G3.size;have hel3:f<QM.heap.size:=ll ld ur;refine ar (i:=14) rfl (by as_aux_lemma=>kernel_rfl) (fun K j=>?_);go_simp;refine j _ _ (fun h=>absurd rfl h) ?_;clear j K s6 Fh
  (try simp only[Act.put,nzL])
  refine bJ (by as_aux_lemma=>kernel_rfl) ?_ _;have RB:Hid ((QM.setCell (J f 6 Z) (Y t (b.length+1) y)).heap[w.heap.size+1]?=Q (T #[QA D,N I 0,U ⟨#[]⟩] 66 (0,0))):=(qh _ _ _ _ (show w.heap.size+1≠f by omega)).trans ((G3.block _ (ll (show w.heap.size+1<m.heap.size by omega) (by simp<;>omega)) Fl).trans ((AB.block _ (by omega)).trans DQ));have M:Hid (RepSt w0 S mb mp (Y a0 S.n0 c0) (Y a1 S.n1 c1) w (QM.setCell (J f 6 Z) (Y t (b.length+1) y)) making o QN V' O P f tg nm (b++[⟨name,QC,D⟩]) (Y r b.length p) (Y t (b.length+1) y)):=by
   refine⟨M4.1,U4,?_,fun k QQ=>?_⟩
   ·exact((KW.to (KX.of_below (X:=XN) (⟨AB.os,AB.tape,AB.output,AB.size,AB.block⟩:Below m.heap.size m _) lr (by omega))).weak).trans M4.2 (fun _ _ h=>h)
   ·rcases n7.out with e | e
    ·exact .inl (by rw[<-e];exact QQ)
    ·rw[e] at QQ
     cases QQ
     exact .inr (j5 (show w.heap.size<=m.heap.size by omega) (by simp<;>omega))
  generalize QM.setCell (J f 6 Z) (Y t (b.length+1) y)=W4 at RB M ⊢;obtain⟨rl,r0,r1,r2,B⟩:=cV RB;have ph:=B 0;have la:=B 1;have n8:=B 2;clear B M4 U4;have EX:=ae (M.1.ents x HX);obtain⟨act,g,QP⟩:=EX.blk;rw[n6.out] at g;obtain⟨q,q0,q1,q2,q3,q4,q5,-,-,-⟩:=g.facts;obtain⟨W,na,ca,rfl⟩:∃ a n c,act=Y a n c:=by
   unfold mF at QP;split at QP
   ·obtain⟨_,a,c,e,_⟩:=QP;exact⟨a,_,c,e⟩
   ·exact⟨_,_,_,QP⟩
  clear g QP;go_wp2_with fail;refine(pF ⟨name,x.kind,x.code,x.text,na,fun _=>⟨0,⟨#[]⟩,0⟩,0,fun _=>⟨⟨#[]⟩,D,D,0⟩⟩ W ca Z 0 W4).mono ?_;rintro e w5 ⟨rfl,QO⟩;have n9:Hid (w5.heap[w.heap.size+1]?=Q (T #[QA D,N I 0,U ⟨#[]⟩] 66 (0,0))):=(QO.block _ rl).trans RB;have R5:Hid (RepSt w0 S mb mp (Y a0 S.n0 c0) (Y a1 S.n1 c1) w w5 making o QN V' O P f tg nm (b++[⟨name,QC,D⟩]) (Y r b.length p) (Y t (b.length+1) y)):=⟨M.1.below QO lr,M.2.1.below QO lr,M.2.2.1.to (KX.of_below QO lr M.1.lt),M.2.2.2⟩
  clear r0 r1 r2 ph la n8 q0 q1 q2 q3 q4 q5 QO;obtain⟨rl5,r0,r1,r2,B⟩:=cV n9;have ph:=B 0;have la:=B 1;have n8:=B 2;clear B;obtain⟨kb,aq⟩:∃ kb,kb=decide (¬ x.kind=2):=⟨_,rfl⟩
  have Fi:=ae aq;simp only;rw[<-aq];clear aq;go_wp2_with fail;refine bp (v:=QE #[QA kb,N I x.code,U x.text]) (by simp[results,Tryz.results282,go_sem,r0,r1,r2]) rfl ?_;show vr w0 S mb mp (Y a0 S.n0 c0) (Y a1 S.n1 c1) making made G V w f tg nm name b (Y r b.length p) _ _ (.inl (o,x));refine⟨by rw[Fi.out],QN,V',O,P,Y t (b.length+1) y,?_,E1⟩;have X0:=R5.set n9.out (by decide) z (AS _) 0 (QA kb);have X1:=X0.1.set X0.2 (by decide) z (AS _) 1 (N I x.code);have X2:=X1.1.set X1.2 (by decide) z (AS _) 2 (U x.text);exact X2.1
 ·obtain⟨u,rfl,h1,h2⟩:=s
  go_wp2_with fail;exact⟨rfl,u,rfl,h1,(QJ.mono z).trans h2⟩
 ·obtain⟨rfl,h2⟩:=s
  go_wp2_with fail;exact⟨rfl,rfl,(QJ.mono z).trans h2⟩
end
end Go.Proofs.YtkdimgejdocbbaaGreatDoor.Vp
namespace Go.Proofs.YtkdimgejdocbbaaGreatDoor.Vp
open RowKit
theorem Bj (f g cnt d:Nat)(w:E):Calls Tryz.prog 228 #[QE #[Y (Q (J f g Z)) cnt d]] w fun e w'=>∃ b,e=QD (.func (.func 253) #[] #[.pointer (Q (J b 0 Z))])/\w.heap.size<=b/\MAt w' b (Y (Q (J f g Z)) cnt d) m0/\(∃ h,w'.heap[b]?=Q (T h 142 (0,0)))/\Below w.heap.size w w':=by
 have k:=ae ((Qs w).alloc lr (T #[Y (Q (J f g Z)) cnt d] 31));have k0:(w.alloc (T #[Y (Q (J f g Z)) cnt d] 31)).cell? (J w.heap.size 0 Z)=Q (Y (Q (J f g Z)) cnt d):=by simp
 have z0:(w.alloc (T #[Y (Q (J f g Z)) cnt d] 31)).heap.size=w.heap.size+1:=by simp
 have i:=ae (sE (w.alloc (T #[Y (Q (J f g Z)) cnt d] 31)) (Q (J f g Z)) cnt d);have j:=ae (by have:=i.out;rw[z0] at this;exact this);have m:=ae (k.alloc k.size (T (eU (Y (Q (J f g Z)) cnt d)) 142));have l:Hid (∃ h,((w.alloc (T #[Y (Q (J f g Z)) cnt d] 31)).alloc (T (eU (Y (Q (J f g Z)) cnt d)) 142)).heap[w.heap.size+1]?=Q (T h 142 (0,0))):=by have h2:=eL (w.alloc (T #[Y (Q (J f g Z)) cnt d] 31)) (T (eU (Y (Q (J f g Z)) cnt d)) 142);rw[z0] at h2;exact⟨_,h2⟩
 go_enter Tryz.func228,Tryz.ntmps228
 go_wp2_with (first
  | (refine sF rfl 142 #[(1,.tmp 5)] rfl [(1,Y (Q (J f g Z)) cnt d)] (eU (Y (Q (J f g Z)) cnt d)) (by simp[Act.eval]) (ym _ _ _) ?_)
  | (refine wpList_store_row rfl 142 (.tmp 3) (.tmp 6) rfl (w.heap.size+1) (eU (Y (Q (J f g Z)) cnt d)) rfl rfl _ _ (by rw[<-z0];exact heap_alloc_last _ _) (infoM.trans (by rw[iB])) (by rw[iB];rfl) (pT _ _ _) ?_;rw[<-z0,World.setRow_alloc_new])
  | fail)
 go_ret;exact⟨_,rfl,by first | (simp;done) | (simp;omega),j,l,m⟩
section
variable {w0 w w':E}{S:Spc}{mb mp:Nat}{s0 s1 mk md:QB}{cnt nk np:Nat}{F:List UInt8->Option QB}{ks ps:List QB}{made:List Ent}{G:ByteArray->Nat}{V:ByteArray->QB}
theorem MIg.only {b:Nat}{g:Array QB}{t:QF}{fz:Nat × Nat}(h:MIg w0 S mb mp s0 s1 w cnt F nk ks np ps made G V mk md)(hb:w.heap[b]?=Q (T g t fz))(r:tu t)(y:w0.heap.size<=b)(m:Only b w w'):MIg w0 S mb mp s0 s1 w' cnt F nk ks np ps made G V mk md:=by
 have q:KX w0.heap.size (fun i=>i=b) w w':=KX.of_only m rfl h.lt y;obtain⟨u,z,B,s,A⟩:=r;refine h.kx q (fun i o hi l=>m.block i (ai hi) l) (fun e=>?_) (fun e=>?_) (fun k d e=>?_) (fun k d e=>?_) (fun x n=>⟨fun e=>?_,fun k d e=>?_⟩)
 ·subst e;exact B (ah hb h.box)
 ·obtain⟨es,c,p⟩:=h.map.isMap
  rw[e,hb] at p;cases p
 ·subst e;obtain⟨_,_,g,f⟩:=af h.rmk _ d;exact u (ah hb f)
 ·subst e;obtain⟨_,_,g,f⟩:=af h.rmd _ d;exact z (ah hb f)
 ·obtain⟨act,j,_⟩:=(h.ents x n).blk
  rw[e] at j;exact s (ah hb j)
 ·subst e;obtain⟨_,_,g,f⟩:=af (h.ents x n).row _ d;exact A (ah hb f)
theorem EU.only {b g tg:Nat}{nm:ByteArray}{n:List Lk}{v:QB}{f:Array QB}{t:QF}{fz:Nat × Nat}(h:EU w0 S w g nm tg G n v made V)(hb:w.heap[b]?=Q (T f t fz))(r:tu t)(i:Only b w w'):EU w0 S w' g nm tg G n v made V:=by
 obtain⟨⟨a,j,d,y⟩,o,m,u,l,has⟩:=h;obtain⟨t1,t2,t3,s,x⟩:=r;refine⟨⟨a,j,(i.block _ (ai d) fun e=>?_).trans d,y⟩,o,bI m fun k p=>?_,u,l,has⟩
 ·subst e;exact s (ah hb d)
 ·obtain⟨_,q,f,z⟩:=af m _ p
  exact i.block k q fun e=>x (ah hb (e ▸ z))
theorem MIg.entOnly {d:Nat}{g:Array QB}{fz:Nat × Nat}(h:MIg w0 S mb mp s0 s1 w cnt F nk ks np ps made G V mk md)(hb:w.heap[d]?=Q (T g 127 fz))(q:∀ x∈made,G x.name≠d)(r:w0.heap.size<=d)(l:Only d w w'):MIg w0 S mb mp s0 s1 w' cnt F nk ks np ps made G V mk md:=by
 have p:KX w0.heap.size (fun i=>i=d) w w':=KX.of_only l rfl h.lt r;refine h.kx p (fun i o hi j=>l.block i (ai hi) j) (fun e=>?_) (fun e=>?_) (fun k b e=>?_) (fun k b e=>?_) (fun x m=>⟨fun e=>q x m e,fun k b e=>?_⟩)
 ·subst e;exact absurd (ah hb h.box) (by decide)
 ·obtain⟨es,c,n⟩:=h.map.isMap
  rw[e,hb] at n;cases n
 ·subst e;obtain⟨_,_,g,f⟩:=af h.rmk _ b;exact absurd (ah hb f) (by decide)
 ·subst e;obtain⟨_,_,g,f⟩:=af h.rmd _ b;exact absurd (ah hb f) (by decide)
 ·subst e;obtain⟨_,_,g,f⟩:=af (h.ents x m).row _ b;exact absurd (ah hb f) (by decide)
end
theorem MAt.blk {w w':E}{b:Nat}{f:QB}{m:Mst}(h:MAt w b f m)(hb:w'.heap[b]?=w.heap[b]?)(g:w.heap.size<=w'.heap.size):MAt w' b f m :=
 ⟨ll h.1 g,fun j d=>⟨(cq (a:=(J b j Z)) hb).trans (h.2 j d).1,(DC (a:=(J b j Z)) hb).trans (h.2 j d).2⟩⟩
def TB (w:E)(g:Nat)(t:Turn):Prop:=w.heap[g]?=Q (T #[QA t.over,N I t.code,U t.text,QA t.ask,U t.name,N I t.steps] 61 (0,0))
theorem TB.facts {w:E}{g:Nat}{t:Turn}(h:TB w g t):g<w.heap.size/\w.cell? (J g 0 Z)=Q (QA t.over)/\w.cell? (J g 1 Z)=Q (N I t.code)/\w.cell? (J g 2 Z)=Q (U t.text)/\w.cell? (J g 3 Z)=Q (QA t.ask)/\w.cell? (J g 4 Z)=Q (U t.name)/\w.cell? (J g 5 Z)=Q (N I t.steps)/\∀ j,w.frozen? (J g j Z)=D:=by unfold TB at h;refine⟨ai h,?_,?_,?_,?_,?_,?_,fun j=>?_⟩;all_goals simp[World.cell?,World.frozen?,h]
theorem TB.put {w:E}{g:Nat}{u:Turn}(h:TB w g u)(t:Turn):TB (eF w g t) g t :=
 aw (aw (aw (aw (aw (aw h (j:=0) _) (j:=1) _) (j:=2) _) (j:=3) _) (j:=4) _) (j:=5) _
theorem TB.only {w w':E}{g b:Nat}{t:Turn}(h:TB w g t)(f:Only b w w')(d:g≠b):TB w' g t:=(f.block g (ai h) d).trans h
end Go.Proofs.YtkdimgejdocbbaaGreatDoor.Vp
namespace Go.Proofs.YtkdimgejdocbbaaGreatDoor.Vp
open RowKit Ca
def ContOk (S:Spc)(tg:Nat)(b:List aA)(H:Halt):Prop:=∀ (y:Nat->aA) (n:Nat),b.length<=n->(∀ i,i<b.length->y i=yL b i)->dM (S.f1 tg).act (S.f1 tg).actN y n H=bV (S.f1 tg).act (S.f1 tg).actN y n 2001 0 0 0 []
theorem ContOk.turn {S:Spc}{tg:Nat}{b:List aA}{H:Halt}{m:Mst}(h:ContOk S tg b H)(d:eE m H)(hL:fR b.length H):m.t=bF S tg b:=by rw[<-mN (f:=(S.f1 tg).act) (cnt:=(S.f1 tg).actN) (y:=yL b) d hL];exact h (yL b) b.length lr fun _ _=>rfl
theorem ContOk.step {S:Spc}{tg:Nat}{b:List aA}{a:Bool}{nm:ByteArray}{s:List ByteArray}{p st:Nat}{f:Halt}{r:aA}(h:ContOk S tg b (.inr (a,nm,s,p,st,(b.length+1))))(j:∀ y n,b.length+1<=n->y (b.length+1 - 1)=r->dM (S.f1 tg).act (S.f1 tg).actN y n (.inr (a,nm,s,p,st,(b.length+1)))=dM (S.f1 tg).act (S.f1 tg).actN y n f):ContOk S tg (b++[r]) f:=by intro y n g d;rw[cM,p7] at g d;rw[<-j y n g (by rw[JD,d _ (lj _),Cm])];exact h y n (by omega) fun i hi=>by rw[d i (by omega),yw b r hi]
structure RI (w0:E)(S:Spc)(mb mp:Nat)(s0 s1:QB)(w:E)(n:Nat)(making:List ByteArray)(eb tg:Nat)(nm:ByteArray)(b:Nat)(cv:QB)(tb:Nat)(made0:List Ent)(G0:ByteArray->Nat)(V0:ByteArray->QB)(R0:Out (Turn × List Lk))(wr:E)(ys:List aA)(ls:List Lk)(made:List Ent)(G:ByteArray->Nat)(V:ByteArray->QB)(mk md v:QB)(m:Mst)(H:Halt):Prop where
 mi:MI w0 S mb mp s0 s1 wr making making made G V mk md
 pg:PG S making made
 rg:RG S made ys ls
 room:ed S making made (201 - ys.length)
 eu:EU w0 S wr eb nm tg G ls v made V
 ma:MAt wr b cv m
 ty:∃ cs,wr.heap[b]?=Q (T cs 142 (0,0))
 tb:TB wr tb m.t
 st:eE m H
 lk:fR ys.length H
 co:ContOk S tg ys H
 run:bO S (aL S n making) tg (201 - ys.length) made ys ls=R0
 le:ys.length<=200
 ext:Ext w.heap.size made0 made G0 G V0 V
 kx:KX w0.heap.size (fun i=>i=eb) w wr
 vn:∀ k,v.ownBlock=Q k->w.heap.size<=k
def Dz (w0:E)(S:Spc)(mb mp:Nat)(s0 s1:QB)(making:List ByteArray)(made:List Ent)(G:ByteArray->Nat)(V:ByteArray->QB)(w:E)(f tg:Nat)(nm:ByteArray)(e:Ending)(w':E):Out (Turn × List Lk)->Prop
 | .inl (made',x)=>e=QD (.tuple #[])/\∃ b g h l j,MI w0 S mb mp s0 s1 w' making making made' b g h l/\EntAt w0 S b w' f j ⟨nm,3,x.1.code,x.1.text,tg,x.2⟩/\(∀ y∈made',b y.name≠f)/\(∀ k,j.ownBlock=Q k->w.heap.size<=k)/\Ext w.heap.size made made' G b V g/\KX w0.heap.size (fun i=>i=f) w w'
 | .inr (.inl c)=>∃ v,e=.panicked [{ v:=.iface 269 (QE #[v]),recovered:=D }]/\w'.ownsRow w0.heap.size 9 1 v c.length (bq c)/\Below w0.heap.size w w'
 | .inr (.inr d)=>e=.panicked [{ v:=.iface 271 (QE #[U d]),recovered:=D }]/\Below w0.heap.size w w'
section
variable {w0:E}{S:Spc}{a0 a1:Option Addr}{c0 c1 mb mp:Nat}{making:List ByteArray}
theorem Bl (C:Ctx w0 S a0 c0 a1 c1)(n:Nat)(HL:ji w0 S mb mp (Y a0 S.n0 c0) (Y a1 S.n1 c1) n)(o:List Ent)(G0:ByteArray->Nat)(V0:ByteArray->QB)(FC FF:QB)(w:E)(r tg:Nat)(nm:ByteArray)(Gp:making.length+n=60)(h:MI w0 S mb mp (Y a0 S.n0 c0) (Y a1 S.n1 c1) w making making o G0 V0 FC FF)(hp:PG S making o)(Fo:ed S making o 201)(Ge:tg<S.n1)(hu:EU w0 S w r nm tg G0 [] (Y Z 0 0) o V0):Calls Tryz.prog 263 #[.pointer (Q (J mb 0 Z)),.pointer (Q (J r 0 Z))] w fun e w'=>Dz w0 S mb mp (Y a0 S.n0 c0) (Y a1 S.n1 c1) making o G0 V0 w r tg nm e w' (bO S (aL S n making) tg 201 o [] []):=by
 obtain⟨Fp,hc1,Gk⟩:=bY (C.ok.act tg Ge);obtain⟨⟨av,QJ,aq,bt⟩,Fi,Fj,qr,-,-⟩:=hu;obtain⟨QH,QG,rfl,DE⟩:∃ QH QG,av=Q (J QH QG Z)/\RowIns w0 QH QG (S.f1 tg).actN (S.f1 tg).act:=by
  rcases bt with h | ⟨b,off,e,hr⟩
  ·omega
  ·exact⟨b,off,e,hr⟩
 obtain⟨hel,-,-,-,-,e4,-,-,-,-⟩:=aq.facts;have HU:Hid (EU w0 S w r nm tg G0 [] (Y Z 0 0) o V0):=⟨⟨_,_,aq,bt⟩,Fi,Fj,qr,fun _ _ k hk=>(by cases hk),fun _ hl=>absurd hl nj⟩
 have HM:=ae h;have HP:=ae hp;have HRI:=ae DE;have CC:=ae C;have Gv:=ae HL;have M:w0.heap.size<=w.heap.size:=h.lt;have ur:Hid (∀ W b,Below w0.heap.size w0 W->w0.heap.size<=b->Env W b QH QG (S.f1 tg).actN (S.f1 tg).act):=fun W b hW hb=>⟨DE.below hW lr,C.tab.below hW C.tab.1,C.pow.below hW lr,ll DE.1 hb,ll C.tab.1 hb,ll C.pow.lt hb⟩
 obtain⟨R0,FK⟩:∃ R0,R0=bO S (aL S n making) tg 201 o [] []:=⟨_,rfl⟩
 rw[<-FK];have Gu:=ae FK;clear h hp DE C HL aq bt Fj qr FK;obtain⟨H0,FM⟩:=pS (S.f1 tg).act (S.f1 tg).actN 2001 0 0 0 [] (by omega) (by omega);have FZ:Hid (Goes (S.f1 tg).act (S.f1 tg).actN m0 H0):=.inl ⟨rfl,0,0,0,[],⟨trivial,rfl,by simp,rfl,rfl,rfl,fun x hx=>absurd hx nj,by omega,by omega,by omega⟩,FM⟩;have Fr:=ae (fun y n=>nC (S.f1 tg).act (S.f1 tg).actN y n 2001 0 0 0 [] H0 (by omega) rfl FM);clear FM;go_enter Tryz.func263,Tryz.ntmps263;go_wp2_with fail;refine(Bj QH QG (S.f1 tg).actN QJ w).mono ?_;rintro e w1 ⟨b,rfl,hb,Gd,FP,F7⟩;have Gb:=ae Gd;have Gc:=ae FP;have B1:=ae F7;clear Gd FP F7 e4;go_wp2_with fail;refine(oF b QH QG (S.f1 tg).actN QJ (S.f1 tg).act m0 H0 ⟨D,0,⟨#[]⟩⟩ _ Gb (ur _ _ (HM.bel.trans (B1.mono M)) (j5 M hb)) rfl (by omega) Fp FZ).mono ?_;rintro e w2 ⟨QP,rfl,Ga,Gm,n7⟩;have FN:=ae Ga;have Gl:=ae Gm;have O2:=ae n7;have Gn:Hid (∃ QO,w2.heap[b]?=Q (T QO 142 (0,0))):=by obtain⟨QO,A⟩:=Gc.out;exact n7.ty QO _ _ A
 have Gq:w1.heap.size<=w2.heap.size:=n7.size;have B2:=ae (B1.trans (n7.below hb B1.size));clear Ga Gm n7;simp only[Turn.v];have A3:=ae ((Qs w2).alloc lr (T #[QA QP.t.over,N I QP.t.code,U QP.t.text,QA QP.t.ask,U QP.t.name,N I QP.t.steps] 61));have DQ:Hid (TB (w2.alloc (T #[QA QP.t.over,N I QP.t.code,U QP.t.text,QA QP.t.ask,U QP.t.name,N I QP.t.steps] 61)) w2.heap.size QP.t):=eL _ _;have th:b<w2.heap.size:=FN.lt;go_wp2;generalize w2.alloc (T #[QA QP.t.over,N I QP.t.code,U QP.t.text,QA QP.t.ask,U QP.t.name,N I QP.t.steps] 61)=W3 at A3 DQ ⊢;obtain⟨tb,F9⟩:∃ tb,tb=w2.heap.size:=⟨_,rfl⟩
 rw[<-F9] at DQ ⊢;have Fw:w.heap.size<=tb:=by have:=B2.size;omega
 have hbtb:b<tb:=by omega
 have B3:=ae (B2.trans (A3.mono B2.size))
 have Gh:Hid (RI w0 S mb mp (Y a0 S.n0 c0) (Y a1 S.n1 c1) w n making r tg nm b (Y (Q (J QH QG Z)) (S.f1 tg).actN QJ) tb o G0 V0 R0 W3 [] [] o G0 V0 FC FF (Y Z 0 0) QP H0) :=
  ⟨HM.below B3 lr,HP,gn S o,Fo,HU.below B3 lr,FN.below A3 th,(by obtain⟨QO,A⟩:=Gn.out;exact⟨QO,(A3.block b th).trans A⟩),DQ,Gl,(Fr (yL []) 0).2,fun y n _ _=>(Fr y n).1.symm,Gu.symm,CP _,Ext.refl _ _ _ _,KX.of_below B3 lr M,fun k hk=>(by cases hk)⟩
 clear F9 DQ A3 B2 Gb Gc FN Gn Gl O2 FZ Fr B1 HM HU Fo HP B3 Gq th;go_loopg [] 202 (fun g wr=>∃ p ls made G V mk md v m H,Hid (RI w0 S mb mp (Y a0 S.n0 c0) (Y a1 S.n1 c1) w n making r tg nm b (Y (Q (J QH QG Z)) (S.f1 tg).actN QJ) tb o G0 V0 R0 wr p ls made G V mk md v m H)/\201 - p.length<=g);case atStart=>exact⟨[],[],o,G0,V0,FC,FF,_,QP,H0,Gh,by simp⟩
 case round =>
  clear Gh;obtain⟨p,ls,made,G,V,mk,md,v,m,H,f,hg⟩:=hrel;have HT:=ae (f.co.turn f.st f.lk);obtain⟨tbl,t0,t1,t2,t3,t4,t5,tf⟩:=f.tb.facts;have F1:=tf 0;have FY:=tf 1;have Fq:=tf 2;have Fv:=tf 3;have FE:=tf 4;have FW:=tf 5;clear tf;have hbw:w.heap.size<=b:=hb;have Gj:r≠b:=by omega
  have QK:r≠tb:=by omega
  cases ho:m.t.over with
  | true =>
   rw[ho] at t0;have Gw:Hid (R0=.inl (made,(m.t,ls))):=by show _=_;rw[<-f.run,show 201 - p.length=(200 - p.length)+1 by have:=f.le;omega,bO,<-HT.out,eT ho]
   obtain⟨⟨ax,cx,aq,bt⟩,-⟩:=f.eu;obtain⟨hel2,-,-,e2,e3,-,-,-,-,ef⟩:=aq.facts;have ef2:=ef 2;have ef3:=ef 3;have FQ:=ae aq;have Gy:=ae bt;clear aq bt ef;obtain⟨code,fd⟩:∃ code,code=m.t.code:=⟨_,rfl⟩
   obtain⟨text,ex⟩:∃ text,text=m.t.text:=⟨_,rfl⟩
   rw[<-fd] at t1;rw[<-ex] at t2;have HC:=ae fd;have HX:=ae ex;clear fd ex;go_wp2_with fail;clear t0 t3 t4 t5 F1 FY Fq Fv FE FW;refine wp_region_held_drew (S:=fun V=>V.cell? (J tb 1 Z)=Q (N I code)/\V.cell? (J tb 2 Z)=Q (U text)) (by as_aux_lemma=>kernel_rfl) ⟨t1,t2⟩ (fun hS=>?_);have HS:=ae hS;clear hS
   iterate 9
    first | refine bS 0 (v:=?_) rfl rfl (by as_aux_lemma=>kernel_rfl) (fun _ _ _ h=>h) rfl ?_ HS ?_ | refine bS 4 (v:=?_) rfl rfl (by as_aux_lemma=>kernel_rfl) (fun _ _ _ h=>h) rfl ?_ HS ?_
    rotate_left
    ·(intro wz FU;obtain⟨s0,s1⟩:=FU;go_simp)
     (try with_reducible rfl)
    (try simp only[Act.put,nzL])
   have S5:Hid ((wr.drew.setCell (J r 2 Z) (N I code)).cell? (J tb 1 Z)=Q (N I code)/\(wr.drew.setCell (J r 2 Z) (N I code)).cell? (J tb 2 Z)=Q (U text)):=⟨(cell_far _ _ _ _ QK).trans HS.1,(cell_far _ _ _ _ QK).trans HS.2⟩
   refine bN (i:=9) rfl (by as_aux_lemma=>kernel_rfl) (fun K hK=>?_);go_simp;refine hK _ _ S5 ?_;clear hK K HS
   (try simp only[Act.put,nzL])
   have HS:=S5
   iterate 3
    refine bS 10 (v:=?_) rfl rfl (by as_aux_lemma=>kernel_rfl) (fun _ _ _ h=>h) rfl ?_ HS ?_;rotate_left
    ·(intro wz FU;obtain⟨s0,s1⟩:=FU;go_simp)
     (try with_reducible rfl)
    (try simp only[Act.put,nzL])
   have S6:Hid (((wr.drew.setCell (J r 2 Z) (N I code)).setCell (J r 3 Z) (U text)).cell? (J tb 1 Z)=Q (N I code)/\((wr.drew.setCell (J r 2 Z) (N I code)).setCell (J r 3 Z) (U text)).cell? (J tb 2 Z)=Q (U text)):=⟨(cell_far _ _ _ _ QK).trans S5.1,(cell_far _ _ _ _ QK).trans S5.2⟩
   refine bN (i:=13) rfl (by as_aux_lemma=>kernel_rfl) (fun K hK=>?_);go_simp;refine hK _ _ S6 ?_;clear hK K
   (try simp only[Act.put,nzL])
   refine wpAnyH_done (by as_aux_lemma=>kernel_rfl) ?_ _;have OE:Hid (Only r wr ((wr.setCell (J r 2 Z) (N I code)).setCell (J r 3 Z) (U text)).drew):=(bZ (bZ (Only.refl r wr) 2 _) 3 _).drew;have F4:Hid (EntBlk ((wr.setCell (J r 2 Z) (N I code)).setCell (J r 3 Z) (U text)).drew r nm 3 code text (Y ax (S.f1 tg).actN cx) v 0):=aw (aw FQ (j:=2) _) (j:=3) _;generalize ((wr.setCell (J r 2 Z) (N I code)).setCell (J r 3 Z) (U text)).drew=W6 at OE F4 ⊢;go_end0;rw[Gw.out];refine⟨rfl,G,V,mk,md,v,f.mi.entOnly FQ f.eu.free Fi OE,⟨⟨_,by rw[<-HC.out,<-HX.out];exact F4,by rw[mF,eT rfl];exact⟨Ge,_,_,rfl,Gy⟩⟩,Fi,bI f.eu.row fun k hk=>?_⟩,f.eu.free,f.vn,f.ext,f.kx.trans (KX.of_only (X:=fun i=>i=r) OE rfl f.mi.lt Fi) (fun _ _ h=>h)⟩;obtain⟨_,hl,QO,A⟩:=af f.eu.row k hk;exact OE.block k hl fun e=>absurd (ah FQ (e ▸ A)) (by decide)
  | false =>
   obtain⟨a,s,s2,pp,st,l,rfl⟩:=jH f.st ho;have el:l=p.length+1:=f.lk;subst el;obtain⟨Fh,Bk,Fz,-⟩:=f.st;have hylt:p.length<200:=by have:=Bk.lk;omega
   have Gf:=ae Fh;rw[Fh] at t0 t1 t2 t3 t4 t5;simp only at t0 t1 t2 t3 t4 t5;have HSM:=ae Bk;have Fl:=ae Fz;have F0:Hid (bF S tg p=⟨D,0,⟨#[]⟩,a,s,st⟩):=HT.symm.trans Fh;have F3:ls.length<=200:=by have:=f.rg.len;omega
   clear Fh Bk Fz;have Fm:Hid (∀ k,v.ownBlock=Q k->k≠b/\k≠tb):=fun k hk=>by obtain⟨_,_,QO,A⟩:=af f.eu.row k hk;obtain⟨cs2,Gk⟩:=f.ty;exact⟨fun e=>absurd (ah Gk (e ▸ A)) (by decide),fun e=>absurd (ah (show wr.heap[tb]?=_ from f.tb) (e ▸ A)) (by decide)⟩
   cases a with
   | false =>
    go_wp2_with fail;clear t0 t1 t2 t3 t4 t5 F1 FY Fq Fv FE FW;refine(yU CC wr r tg nm ls v ⟨D,0,⟨#[]⟩,D,s,st⟩ f.mi f.eu F3 rfl).mono ?_;rintro e w3 ⟨rfl,v',ph⟩;have B:=ae ph;clear ph;obtain⟨QM,At⟩:∃ QM,QM=fh S s:=⟨_,rfl⟩
    have Gg:=ae At;simp only at B ⊢;rw[<-At] at B ⊢;clear At;have NX:Hid (bO S (aL S n making) tg (200 - p.length) made (p++[⟨QM,0,⟨#[]⟩⟩]) (ls++[⟨s,D,QM⟩])=R0):=by show _=_;have:=f.run;rw[show 201 - p.length=(200 - p.length)+1 by omega,bO,F0.out,a8 (by simp),eT rfl,<-Gg.out] at this;exact this
    have FT:=ae f.pg;have la:Hid (RG S made (p++[⟨QM,0,⟨#[]⟩⟩]) (ls++[⟨s,D,QM⟩])):=f.rg.add (by rw[Gg.out];exact jS _ _) Fl (fun h=>by cases h);have FI:Hid (ed S making made (200 - p.length)):=by have:=f.room;unfold ed at this ⊢;show _<=_;omega
    have FA:=ae f.ext;have n6:Hid ((⟨QM,0,⟨#[]⟩⟩:aA).text.size<=2000):=CP _;have BK:Hid (w3.heap[b]?=wr.heap[b]?):=by obtain⟨QO,A⟩:=f.ty;exact B.2.2.1.blk b _ _ _ A (by decide) (by decide) (by decide) fun h=>by rcases h with h | h;exact Gj h.symm;exact(Fm b h).1 rfl
    have TK:Hid (TB w3 tb ⟨D,0,⟨#[]⟩,D,s,st⟩):=by have h0:=f.tb;rw[Gf.out] at h0;exact(B.2.2.1.blk tb _ _ _ h0 (by decide) (by decide) (by decide) fun h=>by rcases h with h | h;exact QK h.symm;exact(Fm tb h).2 rfl).trans h0
    have DA:wr.heap.size<=w3.heap.size:=B.2.2.1.below.size;have Fx:=ae (f.ma.blk BK DA);have Fy:Hid (∃ QO,w3.heap[b]?=Q (T QO 142 (0,0))):=by obtain⟨QO,A⟩:=f.ty;exact⟨QO,BK.trans A⟩
    go_wp2_with fail;refine(jp b QH QG (S.f1 tg).actN QJ (S.f1 tg).act m D s s2 pp st (p.length+1) ⟨QM,0,⟨#[]⟩⟩ _ Fx (ur _ _ B.1.bel (j5 M hb)) f.st (by omega) n6 (by omega) Fp).mono ?_;rintro e w4 ⟨R,H2,rfl,ro,n8,sm,ld,z⟩;have FD:=ae ro;have FH:=ae n8;have FO:=ae sm;have FX:=ae (f.co.step ld);have O4:=ae z;obtain⟨Gx,QN⟩:=Fy.out;have n9:=ae (B.1.only QN (by decide) (j5 M hb) z);have Ft:=ae (B.2.1.only QN (by decide) z);have QL:=ae (TK.only z (by omega));have FG:=ae (z.ty _ _ _ QN);have K4:=ae ((f.kx.trans B.2.2.1 (fun i hi h=>by rcases h with h | h;exact h;exact absurd (f.vn i h) (by omega))).trans (KX.of_only (X:=fun i=>i=b) z rfl B.1.lt (j5 M hb)) (fun i hi h=>by have e2:i=b:=h;omega));have FJ:Hid (∀ k,v'.ownBlock=Q k->w.heap.size<=k):=fun k hk=>by
     rcases B.2.2.2 k hk with h | h
     ·exact f.vn k h
     ·exact j5 f.kx.below.size h
    clear ro n8 sm ld z QN;obtain⟨ul,u0,u1,u2,u3,u4,u5,O⟩:=QL.facts;have Gs:=O 0;have Gr:=O 1;have Gz:=O 2;have GE:=O 3;have Gt:=O 4;have GF:=O 5;clear O;obtain⟨g,rfl⟩:∃ g,gk=g+1:=⟨gk - 1,by omega⟩
    have Fs:=ae (QL.put R.t);have OP:Hid (Only tb w4 (eF w4 tb R.t)):=kD R.t;have mv:w0.heap.size<=tb:=j5 M Fw;have q:(p++[(⟨QM,0,⟨#[]⟩⟩:aA)]).length=p.length+1:=by simp
    have FL:Hid (RI w0 S mb mp (Y a0 S.n0 c0) (Y a1 S.n1 c1) w n making r tg nm b (Y (Q (J QH QG Z)) (S.f1 tg).actN QJ) tb o G0 V0 R0 (eF w4 tb R.t) (p++[⟨QM,0,⟨#[]⟩⟩]) (ls++[⟨s,D,QM⟩]) made G V mk md v' R H2) :=
     ⟨n9.only QL (by decide) mv OP,FT,la,(by rw[q,show 201 - (p.length+1)=200 - p.length by omega];exact FI),Ft.only QL (by decide) OP,FD.boxed (by omega) R.t,(by obtain⟨QO,A⟩:=FG.out;exact⟨QO,(OP.block b (ai A) (by omega)).trans A⟩),Fs,FH,(by rw[q];exact FO),FX,(by rw[q,show 201 - (p.length+1)=200 - p.length by omega];exact NX),(by rw[q];omega),FA,K4.trans (KX.of_only (X:=fun i=>i=tb) OP rfl n9.lt mv) (fun i hi h=>by have e2:i=tb:=h;omega),FJ⟩
    simp only[Turn.v];go_wp2;go_roundg g;case measure=>omega
    case rel=>exact⟨_,_,_,_,_,_,_,_,_,_,FL,by rw[q];omega⟩
   | true =>
    go_wp2_with fail;clear t0 t1 t2 t3 t4 t5 F1 FY Fq Fv FE FW;refine(yV CC n Gv wr r tg nm ls v ⟨D,0,⟨#[]⟩,QC,s,st⟩ Gp f.mi f.pg (by have:=f.room;unfold ed at this ⊢;omega) f.eu F3 rfl Fl).mono ?_;intro e w3 L;simp only at L;have QQ:=f.run;rw[show 201 - p.length=(200 - p.length)+1 by omega,bO,F0.out,a8 (by simp),a8 (by simp)] at QQ;simp only at QQ;rcases hr:aL S n making made s with ⟨P,x⟩ | c | d
    ·rw[hr] at L QQ
     dsimp only at QQ;obtain⟨rfl,G2,V2,GA,GC,v',ph,FV⟩:=L;obtain⟨Fk,-,hx,Gi⟩:=cP CC.ok n making made s P x f.pg Fl hr;have Fd:=gj S n making made s P x hr;have B:=ae ph;have NX:=ae QQ;have FT:=ae Fk;have Fu:fg x=⟨decide (¬ x.kind=2),x.code,x.text⟩:=rfl;have la:Hid (RG S P (p++[fg x]) (ls++[⟨s,QC,D⟩])):=(f.rg.mono FV.mem).add (iO (Fk.ents x hx)) Fl (fun _=>⟨x,hx,Gi⟩);have FI:Hid (ed S making P (200 - p.length)):=by have:=f.room;unfold ed at this ⊢;unfold fq at Fd;show _<=_;omega
     have FA:=ae (f.ext.trans FV f.kx.below.size);have n6:Hid ((fg x).text.size<=2000):=(Fk.ents x hx).tx;rw[Fu] at NX la n6;clear ph QQ Fk hx Gi Fd FV hr Fu;obtain⟨kb,F8⟩:∃ kb,kb=decide (¬ x.kind=2):=⟨_,rfl⟩
     rw[<-F8] at NX la n6 ⊢;clear F8;have BK:Hid (w3.heap[b]?=wr.heap[b]?):=by obtain⟨QO,A⟩:=f.ty;exact B.2.2.1.blk b _ _ _ A (by decide) (by decide) (by decide) fun h=>by rcases h with h | h;exact Gj h.symm;exact(Fm b h).1 rfl
     have TK:Hid (TB w3 tb ⟨D,0,⟨#[]⟩,QC,s,st⟩):=by have h0:=f.tb;rw[Gf.out] at h0;exact(B.2.2.1.blk tb _ _ _ h0 (by decide) (by decide) (by decide) fun h=>by rcases h with h | h;exact QK h.symm;exact(Fm tb h).2 rfl).trans h0
     have DA:wr.heap.size<=w3.heap.size:=B.2.2.1.below.size;have Fx:=ae (f.ma.blk BK DA);have Fy:Hid (∃ QO,w3.heap[b]?=Q (T QO 142 (0,0))):=by obtain⟨QO,A⟩:=f.ty;exact⟨QO,BK.trans A⟩
     go_wp2_with fail;refine(jp b QH QG (S.f1 tg).actN QJ (S.f1 tg).act m QC s s2 pp st (p.length+1) ⟨kb,x.code,x.text⟩ _ Fx (ur _ _ B.1.bel (j5 M hb)) f.st (by omega) n6 (by omega) Fp).mono ?_;rintro e w4 ⟨R,H2,rfl,ro,n8,sm,ld,z⟩;have FD:=ae ro;have FH:=ae n8;have FO:=ae sm;have FX:=ae (f.co.step ld);have O4:=ae z;obtain⟨Gx,QN⟩:=Fy.out;have n9:=ae (B.1.only QN (by decide) (j5 M hb) z);have Ft:=ae (B.2.1.only QN (by decide) z);have QL:=ae (TK.only z (by omega));have FG:=ae (z.ty _ _ _ QN);have K4:=ae ((f.kx.trans B.2.2.1 (fun i hi h=>by rcases h with h | h;exact h;exact absurd (f.vn i h) (by omega))).trans (KX.of_only (X:=fun i=>i=b) z rfl B.1.lt (j5 M hb)) (fun i hi h=>by have e2:i=b:=h;omega));have FJ:Hid (∀ k,v'.ownBlock=Q k->w.heap.size<=k):=fun k hk=>by
      rcases B.2.2.2 k hk with h | h
      ·exact f.vn k h
      ·exact j5 f.kx.below.size h
     clear ro n8 sm ld z QN;obtain⟨ul,u0,u1,u2,u3,u4,u5,O⟩:=QL.facts;have Gs:=O 0;have Gr:=O 1;have Gz:=O 2;have GE:=O 3;have Gt:=O 4;have GF:=O 5;clear O;obtain⟨g,rfl⟩:∃ g,gk=g+1:=⟨gk - 1,by omega⟩
     have Fs:=ae (QL.put R.t);have OP:Hid (Only tb w4 (eF w4 tb R.t)):=kD R.t;have mv:w0.heap.size<=tb:=j5 M Fw;have q:(p++[(⟨kb,x.code,x.text⟩:aA)]).length=p.length+1:=by simp
     have FL:Hid (RI w0 S mb mp (Y a0 S.n0 c0) (Y a1 S.n1 c1) w n making r tg nm b (Y (Q (J QH QG Z)) (S.f1 tg).actN QJ) tb o G0 V0 R0 (eF w4 tb R.t) (p++[⟨kb,x.code,x.text⟩]) (ls++[⟨s,QC,D⟩]) P G2 V2 GA GC v' R H2) :=
      ⟨n9.only QL (by decide) mv OP,FT,la,(by rw[q,show 201 - (p.length+1)=200 - p.length by omega];exact FI),Ft.only QL (by decide) OP,FD.boxed (by omega) R.t,(by obtain⟨QO,A⟩:=FG.out;exact⟨QO,(OP.block b (ai A) (by omega)).trans A⟩),Fs,FH,(by rw[q];exact FO),FX,(by rw[q,show 201 - (p.length+1)=200 - p.length by omega];exact NX),(by rw[q];omega),FA,K4.trans (KX.of_only (X:=fun i=>i=tb) OP rfl n9.lt mv) (fun i hi h=>by have e2:i=tb:=h;omega),FJ⟩
     simp only[Turn.v];go_wp2;go_roundg g;case measure=>omega
     case rel=>exact⟨_,_,_,_,_,_,_,_,_,_,FL,by rw[q];omega⟩
    ·rw[hr] at L QQ
     obtain⟨u,rfl,h1,h2⟩:=L;subst QQ;go_wp2_with fail;exact⟨rfl,u,rfl,h1,f.kx.below.trans h2⟩
    ·rw[hr] at L QQ
     obtain⟨rfl,h2⟩:=L;subst QQ;go_wp2_with fail;exact⟨rfl,rfl,f.kx.below.trans h2⟩
end
end Go.Proofs.YtkdimgejdocbbaaGreatDoor.Vp
