import Derived.Test.YtkdimgejdocbbaaGreatDoorXB
import Derived.Test.YtkdimgejdocbbaaGreatDoorZA
import Derived.Test.YtkdimgejdocbbaaGreatDoorYG
set_option maxRecDepth 1000000
set_option maxHeartbeats 8000000
open Go.Addr renaming mk->J
open Go.Value renaming slice->Z,string->U,int->Q,bool->QA,agg->QE
open Option renaming none->Y,some->N
open Go.Obj renaming cells->T
open Go.IntKind renaming i64->I
open Go renaming World->E,Value->QB,TypeId->QF
open Bool renaming false->D,true->QC
open Go.Ending renaming returned->QD
namespace Go.Proofs.YtkdimgejdocbbaaGreatDoor.Vp
open RowKit
structure KS (B:Nat)(X:Nat->Prop)(w w':E):Prop where
 below:Below B w w'
 blk:∀ i cs t fz,w.heap[i]?=N (T cs t fz)->t≠9->t≠239->t≠132->¬ X i->w'.heap[i]?=w.heap[i]?
theorem KS.trans {B:Nat}{X QH:Nat->Prop}{w w' b:E}(h:KS B X w w')(k:KS B QH w' b)(f:∀ i,i<w.heap.size->QH i->X i):KS B X w b :=
 ⟨h.below.trans k.below,fun i d t fz hi h1 h2 j g=>by
  have e:=h.blk i d t fz hi h1 h2 j g;rw[<-e]
  exact k.blk i d t fz (e.trans hi) h1 h2 j fun l=>g (f i (ai hi) l)⟩
theorem KS.to {B:Nat}{w w' b:E}{X:Nat->Prop}(h:KS B X w w')(k:KS B XN w' b):KS B X w b:=h.trans k fun _ _ h=>h.elim
theorem KS.of_below {B C:Nat}{X:Nat->Prop}{w w':E}(h:Below C w w')(b:w.heap.size<=C)(d:B<=w.heap.size):KS B X w w' :=
 ⟨h.mono (j5 d b),fun i _ _ _ hi _ _ _ _=>h.block i (ll (ai hi) b)⟩
theorem KS.of_grown {B:Nat}{X:Nat->Prop}{row:Option Nat}{w w':E}(h:w.grownBy w' row)(m:B<=w.heap.size)(f:∀ j,row=N j->B<=j/\(X j∨∀ b t fz,w.heap[j]?=N (T b t fz)->t=9∨t=239∨t=132)):KS B X w w':=by
 refine⟨⟨h.os,h.tape,h.output,h.size,fun k n=>h.block k (ll n m) fun e=>?_⟩,fun i b t fz hi h1 h2 l g=>h.block i (ai hi) fun e=>?_⟩
 ·have:=(f k e.symm).1
  omega
 ·rcases(f i e.symm).2 with d | d
  ·exact g d
  ·rcases d b t fz hi with e | e | e
   ·exact h1 e
   ·exact h2 e
   ·exact l e
theorem KS.setCell {B:Nat}{X:Nat->Prop}(w:E){b j:Nat}(hb:B<=b)(d:X b∨∀ f t fz,w.heap[b]?=N (T f t fz)->t=9∨t=239∨t=132)(v:QB):KS B X w (w.setCell (J b j Y) v):=by
 refine⟨(eI B w).setCell hb v,fun i f t fz hi h1 h2 h g=>?_⟩;refine qh _ _ _ _ fun e=>?_;simp at e;subst e;rcases d with d | d
 ·exact g d
 ·rcases d f t fz hi with e | e | e
  ·exact h1 e
  ·exact h2 e
  ·exact h e
def ShBox (w:E)(hb:Nat)(s0 s1 md or st:QB)(d:Int)(g:ByteArray)(f:QB)(b:Bool):Prop:=w.heap[hb]?=N (T #[s0,s1,md,or,st,Q I d,U g,f,QA b] 132 (0,0))
theorem ShBox.facts {w:E}{hb:Nat}{s0 s1 md or st f:QB}{d:Int}{g:ByteArray}{b:Bool}(h:ShBox w hb s0 s1 md or st d g f b):hb<w.heap.size/\w.cell? (J hb 0 Y)=N s0/\w.cell? (J hb 1 Y)=N s1/\w.cell? (J hb 2 Y)=N md/\w.cell? (J hb 3 Y)=N or/\w.cell? (J hb 4 Y)=N st/\w.cell? (J hb 5 Y)=N (Q I d)/\w.cell? (J hb 6 Y)=N (U g)/\w.cell? (J hb 7 Y)=N f/\w.cell? (J hb 8 Y)=N (QA b)/\∀ j,w.frozen? (J hb j Y)=D:=by unfold ShBox at h;refine⟨ai h,?_,?_,?_,?_,?_,?_,?_,?_,?_,fun j=>?_⟩;all_goals simp[World.cell?,World.frozen?,h]
theorem ShBox.blk {w w':E}{hb:Nat}{s0 s1 md or st g:QB}{d:Int}{i:ByteArray}{b:Bool}(h:ShBox w hb s0 s1 md or st d i g b)(f:w'.heap[hb]?=w.heap[hb]?):ShBox w' hb s0 s1 md or st d i g b:=f.trans h
structure SM where
 name:ByteArray
 code:Int
 text:ByteArray
 seen:List Lk
 sv:QB
 done:Bool
def smV (m:SM):List QB:=[U m.name,Q I m.code,U m.text,Z Y 0 0,m.sv,QA m.done]
def eY (b:List Lk):List QB:=b.flatMap fun l=>[U l.name,QA l.ask,QA l.has]
def fI (L:List SM)(t:ByteArray):Option Nat:=L.findIdx? fun m=>m.name.toList == t.toList
structure fE (L:List SM)(making:List ByteArray)(made:List Ent):Prop where
 nod:L.Pairwise fun m m'=>m.name≠m'.name
 len:L.length=made.length+making.length
 got:∀ x∈made,∃ m∈L,m.name=x.name/\m.done=QC/\m.code=(cR x).code/\m.text=(cR x).text/\m.seen=x.looks
 mkg:∀ t∈making,∃ m∈L,m.name=t/\m.done=D
 all:∀ m∈L,(∃ x∈made,x.name=m.name)∨m.name∈making
structure SI (w0:E)(hb:Nat)(s0 s1:QB)(w:E)(making:List ByteArray)(made:List Ent)(L:List SM)(md or st:QB):Prop where
 bel:Below w0.heap.size w0 w
 hbB:w0.heap.size<=hb
 box:ShBox w hb s0 s1 md or st 0 ⟨#[]⟩ (Z Y 0 0) D
 rmd:w.ownsRow w0.heap.size 239 6 md L.length (L.flatMap smV)
 ror:w.ownsRow w0.heap.size 9 1 or made.length (bq (made.map (·.name)))
 rst:w.ownsRow w0.heap.size 9 1 st making.length (bq making)
 apart:∀ k,or.ownBlock=N k->st.ownBlock≠N k
 seen:∀ m∈L,m.done=QC->w.ownsRow w0.heap.size 242 3 m.sv m.seen.length (eY m.seen)
section
variable {w0 w w':E}{hb:Nat}{s0 s1 md or st:QB}{making:List ByteArray}{made:List Ent}{L:List SM}
theorem SI.lt (h:SI w0 hb s0 s1 w making made L md or st):w0.heap.size<=w.heap.size:=h.bel.size
theorem SI.below {C:Nat}(h:SI w0 hb s0 s1 w making made L md or st)(b:Below C w w')(d:w.heap.size<=C):SI w0 hb s0 s1 w' making made L md or st :=
 ⟨h.bel.trans (b.mono (j5 h.lt d)),h.hbB,h.box.blk (b.block _ (ll (ai h.box) d)),own_below h.rmd b d,own_below h.ror b d,own_below h.rst b d,h.apart,fun m f g=>own_below (h.seen m f g) b d⟩
end
def dk:Option Nat->Int
 | some i=>(i:Int)
 | none=>-1
theorem ii (g:Nat->ByteArray)(n:Nat)(t:ByteArray):aF g n t=(atI g n t).isSome:=by unfold aF atI;rw[IM,List.find?_isSome,J9]
theorem tm {g:Nat->ByteArray}{n:Nat}{t:ByteArray}(h:aF g n t=D):atI g n t=Y:=by rw[ii] at h;exact Option.isNone_iff_eq_none.1 (by simpa using h)
theorem qn {g:Nat->ByteArray}{n k:Nat}{t:ByteArray}(b:k<n)(h1:((g k).toList == t.toList)=QC)(h2:aF g k t=D):atI g n t=N k:=by
 unfold atI;rw[List.find?_range_eq_some];refine⟨h1,BO.2 b,fun j d=>?_⟩;cases e:((g j).toList == t.toList) with
 | false=>rfl
 | true =>rw[gY d e] at h2;cases h2
theorem py (b off n0 c0:Nat)(a1:Option Addr)(n1 c1:Nat)(f:Nat->Source)(t:ByteArray)(w:E)(hn:(n0:Int)<=1048576)(m:RowSource w b off n0 f):Calls Tryz.prog 90 #[QE #[Z (N (J b off Y)) n0 c0,Z a1 n1 c1],U t] w fun e w'=>e=QD (Q I (dk (atI (nm0 f) n0 t)))/\Below w.heap.size w w':=by
 have d:=ae ((Qs w).alloc lr (T #[Z (N (J b off Y)) n0 c0,Z a1 n1 c1] 26));have l:=ae (m.below d lr);have o:(w.alloc (T #[Z (N (J b off Y)) n0 c0,Z a1 n1 c1] 26)).cell? (J w.heap.size 0 Y)=N (Z (N (J b off Y)) n0 c0):=by simp
 clear m;obtain⟨R,hR⟩:∃ R,R=dk (atI (nm0 f) n0 t):=⟨_,rfl⟩
 rw[<-hR];have n:=ae hR;clear hR;go_enter Tryz.func90,Tryz.ntmps90;go_wp2;generalize w.alloc (T #[Z (N (J b off Y)) n0 c0,Z a1 n1 c1] 26)=W at d l o ⊢;go_loop [5] (fun i=>∃ k:Nat,k<=n0/\i=Q I k/\Hid (aF (nm0 f) k t=D)) (fun i=>n0 - (intOf i).toNat);case atStart=>exact⟨0,by omega,rfl,rfl⟩
 case round =>
  obtain⟨k,hk,rfl,j⟩:=hrel;by_cases g:k<n0
  ·obtain⟨d0,d1⟩:=l.2 k g
   cases hb:((f k).name.toList == t.toList) with
   | true =>have h:=ae hb;go_wp2;go_ret;exact⟨by rw[n.out,qn g h.out j.out];rfl,d⟩
   | false =>have h:=ae hb;go_wp2;exact⟨⟨k+1,by omega,by go_num,by show aF (nm0 f) (k+1) t=D;rw[lM,j.out];exact h⟩,by simp[intOf];omega⟩
  ·have e:k=n0:=by omega
   subst e;go_wp2;go_ret;exact⟨by rw[n.out,tm j.out];rfl,d⟩
theorem pz (a0:Option Addr)(c0:Nat)(a1:Option Addr)(n1 c1:Nat)(t:ByteArray)(w:E):Calls Tryz.prog 90 #[QE #[Z a0 0 c0,Z a1 n1 c1],U t] w fun e w'=>e=QD (Q I (-1))/\Below w.heap.size w w':=by
 have b:=ae ((Qs w).alloc lr (T #[Z a0 0 c0,Z a1 n1 c1] 26));go_enter Tryz.func90,Tryz.ntmps90;go_wp2;go_loop [5] (fun i=>i=Q I 0) (fun _=>0);case atStart=>rfl
 case round =>subst hrel;go_wp2;go_ret;exact⟨rfl,b⟩
theorem fa (a0:Option Addr)(n0 c0:Nat)(a1:Option Addr)(n1 c1:Nat)(f:Nat->Source)(t:ByteArray)(w:E)(g:(n0:Int)<=1048576)(d:SlSource w a0 n0 f):Calls Tryz.prog 90 #[QE #[Z a0 n0 c0,Z a1 n1 c1],U t] w fun e w'=>e=QD (Q I (dk (atI (nm0 f) n0 t)))/\Below w.heap.size w w':=by
 rcases d with rfl | ⟨b,off,rfl,h⟩
 ·exact pz a0 c0 a1 n1 c1 t w
 ·exact py b off n0 c0 a1 n1 c1 f t w g h
theorem pA (a0:Option Addr)(n0 c0 b off n1 c1:Nat)(f:Nat->Target)(t:ByteArray)(w:E)(hn:(n1:Int)<=1048576)(m:RowTarget w b off n1 f):Calls Tryz.prog 91 #[QE #[Z a0 n0 c0,Z (N (J b off Y)) n1 c1],U t] w fun e w'=>e=QD (Q I (dk (atI (nm1 f) n1 t)))/\Below w.heap.size w w':=by
 have d:=ae ((Qs w).alloc lr (T #[Z a0 n0 c0,Z (N (J b off Y)) n1 c1] 26));have l:=ae (m.below d lr);have o:(w.alloc (T #[Z a0 n0 c0,Z (N (J b off Y)) n1 c1] 26)).cell? (J w.heap.size 1 Y)=N (Z (N (J b off Y)) n1 c1):=by simp
 clear m;obtain⟨R,hR⟩:∃ R,R=dk (atI (nm1 f) n1 t):=⟨_,rfl⟩
 rw[<-hR];have n:=ae hR;clear hR;go_enter Tryz.func91,Tryz.ntmps91;go_wp2;generalize w.alloc (T #[Z a0 n0 c0,Z (N (J b off Y)) n1 c1] 26)=W at d l o ⊢;go_loop [5] (fun i=>∃ k:Nat,k<=n1/\i=Q I k/\Hid (aF (nm1 f) k t=D)) (fun i=>n1 - (intOf i).toNat);case atStart=>exact⟨0,by omega,rfl,rfl⟩
 case round =>
  obtain⟨k,hk,rfl,j⟩:=hrel;by_cases g:k<n1
  ·obtain⟨d0,ka,kc,d1,_⟩:=l.2 k g
   cases hb:((f k).name.toList == t.toList) with
   | true =>have h:=ae hb;go_wp2;go_ret;exact⟨by rw[n.out,qn g h.out j.out];rfl,d⟩
   | false =>have h:=ae hb;go_wp2;exact⟨⟨k+1,by omega,by go_num,by show aF (nm1 f) (k+1) t=D;rw[lM,j.out];exact h⟩,by simp[intOf];omega⟩
  ·have e:k=n1:=by omega
   subst e;go_wp2;go_ret;exact⟨by rw[n.out,tm j.out];rfl,d⟩
theorem pB (a0:Option Addr)(n0 c0:Nat)(a1:Option Addr)(c1:Nat)(t:ByteArray)(w:E):Calls Tryz.prog 91 #[QE #[Z a0 n0 c0,Z a1 0 c1],U t] w fun e w'=>e=QD (Q I (-1))/\Below w.heap.size w w':=by
 have b:=ae ((Qs w).alloc lr (T #[Z a0 n0 c0,Z a1 0 c1] 26));go_enter Tryz.func91,Tryz.ntmps91;go_wp2;go_loop [5] (fun i=>i=Q I 0) (fun _=>0);case atStart=>rfl
 case round =>subst hrel;go_wp2;go_ret;exact⟨rfl,b⟩
theorem fb (a0:Option Addr)(n0 c0:Nat)(a1:Option Addr)(n1 c1:Nat)(f:Nat->Target)(t:ByteArray)(w:E)(g:(n1:Int)<=1048576)(d:SlTarget w a1 n1 f):Calls Tryz.prog 91 #[QE #[Z a0 n0 c0,Z a1 n1 c1],U t] w fun e w'=>e=QD (Q I (dk (atI (nm1 f) n1 t)))/\Below w.heap.size w w':=by
 rcases d with rfl | ⟨b,off,rfl,h⟩
 ·exact pB a0 n0 c0 a1 c1 t w
 ·exact pA a0 n0 c0 b off n1 c1 f t w g h
theorem mG (m:SM):(smV m).length=6:=rfl
theorem cG {w:E}{b g d:Nat}{L:List SM}(h:w.ownsRow b 239 6 (Z (N (J g 0 Y)) L.length d) L.length (L.flatMap smV)){i:Nat}{m:SM}(k:L[i]?=N m)(j:Nat)(l:j<6){u:QB}(f:(smV m)[j]?=N u):w.cell? (J g (i*6+j) Y)=N u:=by have h1:=h.cells (g:=g) rfl (i*6+j) u (by rw[cS smV 6 mG L i j l m k];exact f);rw[addr_add,DC] at h1;exact h1
theorem tr {L:List SM}{k:Nat}{t:ByteArray}{m:SM}(b:L[k]?=N m)(h1:(m.name.toList == t.toList)=QC)(h2:∀ (j:Nat) (m:SM),j<k->L[j]?=N m->(m.name.toList == t.toList)=D):fI L t=N k:=by have f:=(o3.1 b).1;have d:=(o3.1 b).2;unfold fI;rw[JR];refine⟨f,by rw[d];exact h1,fun j g=>?_⟩;rw[KH];exact h2 j _ g (gq (by omega))
theorem vj {L:List SM}{t:ByteArray}(h2:∀ (j:Nat) (m:SM),j<L.length->L[j]?=N m->(m.name.toList == t.toList)=D):fI L t=Y:=by unfold fI;rw[JI];intro m d;obtain⟨j,b⟩:=I8 d;exact h2 j m (o3.1 b).1 b
section
variable {w0:E}{hb:Nat}{s0 s1 md or st:QB}{making:List ByteArray}{made:List Ent}{L:List SM}
theorem Bb (w:E)(t:ByteArray)(r:Nat)(c2:w.cell? (J hb 2 Y)=N md)(f:w.ownsRow r 239 6 md L.length (L.flatMap smV))(hL:L.length<=100000):Calls Tryz.prog 190 #[.pointer (N (J hb 0 Y)),U t] w fun e w'=>e=QD (Q I (dk (fI L t)))/\w'=w:=by
 obtain⟨R,hR⟩:∃ R,R=dk (fI L t):=⟨_,rfl⟩
 rw[<-hR];have y:=ae hR;have l:=ae f;obtain⟨a,c,rfl⟩:∃ a c,md=Z a L.length c:=by
  obtain⟨_,⟨rfl,e⟩ | ⟨g,x,A,rfl,_⟩⟩:=f
  ·exact⟨Y,0,by rw[e]⟩
  ·exact⟨_,_,rfl⟩
 obtain⟨n,u⟩:∃ n,n=L.length:=⟨_,rfl⟩
 have o:=ae u;rw[<-u] at c2 hL;clear f hR u;go_enter Tryz.func190,Tryz.ntmps190;go_wp2;go_loop [5] (fun i=>∃ k:Nat,k<=n/\i=Q I k/\Hid (∀ (j:Nat) (m:SM),j<k->L[j]?=N m->(m.name.toList == t.toList)=D)) (fun i=>n - (intOf i).toNat);case atStart=>exact⟨0,by omega,rfl,fun j m p=>absurd p (CV _)⟩
 case round =>
  obtain⟨k,hk,rfl,s⟩:=hrel;by_cases hlt:k<n
  ·obtain⟨m,d⟩:∃ m,L[k]?=N m:=⟨_,gq (by have:=o.out;omega)⟩
   obtain⟨g,x,A,e,-⟩:=l.2.resolve_left (fun h=>by have:=o.out;omega);simp only[CL,LR] at e;obtain⟨rfl,rfl⟩:=e;have d0:w.cell? (J g (k*6) Y)=N (U m.name):=cG l d 0 (by omega) rfl;have z:=ae d;have hI:(k:Int)<(n:Int):=by omega
   clear d;cases hb2:(m.name.toList == t.toList) with
   | true =>have q:=ae hb2;go_wp2;go_ret;exact⟨by rw[y.out,tr z.out q.out s.out];rfl,rfl⟩
   | false =>
    have q:=ae hb2;go_wp2;refine⟨⟨k+1,by omega,by go_num,fun j B p b=>?_⟩,by simp[intOf];omega⟩;by_cases e:j=k
    ·subst e;rw[z.out] at b;cases b;exact q
    ·exact s j B (by omega) b
  ·have e:k=n:=by omega
   subst e;go_wp2;go_ret;exact⟨by rw[y.out,vj (fun j m p d=>s.out j m (by have:=o.out;omega) d)];rfl,rfl⟩
theorem gJ (w:E)(t:ByteArray)(h:SI w0 hb s0 s1 w making made L md or st)(hL:L.length<=100000):Calls Tryz.prog 190 #[.pointer (N (J hb 0 Y)),U t] w fun e w'=>e=QD (Q I (dk (fI L t)))/\w'=w:=by obtain⟨-,-,-,c2,-⟩:=h.box.facts;exact Bb w t w0.heap.size c2 h.rmd hL
end
structure kX (w0:E)(S:Spc)(a0:Option Addr)(a1:Option Addr):Prop where
 src:SlSource w0 a0 S.n0 S.f0
 tgt:SlTarget w0 a1 S.n1 S.f1
 ok:SpcOk S
def ij (w0:E)(hb:Nat)(w':E)(r:ResL)(b:QB):Prop:=∃ s0 s1 md or st,ShBox w' hb s0 s1 md or st r.code r.text b QC/\w'.ownsRow w0.heap.size 9 1 b r.chain.length (bq r.chain)
structure LExt (n:Nat)(L L':List SM):Prop where
 nam:∀ (i:Nat) (m:SM),L[i]?=N m->∃ m':SM,L'[i]?=N m'/\m'.name=m.name
 sn:∀ m∈L',m.done=QC->(∃ m0∈L,m0.done=QC/\m0.sv=m.sv)∨∀ k,m.sv.ownBlock=N k->n<=k
theorem LExt.refl (n:Nat)(L:List SM):LExt n L L:=⟨fun _ m h=>⟨m,h,rfl⟩,fun m b d=>.inl ⟨m,b,d,rfl⟩⟩
theorem LExt.trans {n o:Nat}{L q b:List SM}(h:LExt n L q)(k:LExt o q b)(x:n<=o):LExt n L b:=by
 refine⟨fun i m f=>?_,fun m f t=>?_⟩
 ·obtain⟨j,h1,d⟩:=h.nam i m f
  obtain⟨s,h2,r⟩:=k.nam i j h1;exact⟨s,h2,r.trans d⟩
 ·rcases k.sn m f t with ⟨m0,u,p,e⟩ | h1
  ·rcases h.sn m0 u p with ⟨j,h1,l,d⟩ | h1
   ·exact .inl ⟨j,h1,l,d.trans e⟩
   ·exact .inr fun k g=>h1 k (by rw[e];exact g)
  ·exact .inr fun k g=>j5 x (h1 k g)
def jw (c:List ByteArray):ResL:=⟨6,⟨#[]⟩,c⟩
def jx (d:ByteArray):ResL:=⟨7,d,[]⟩
def gK (r:ResL)(b:QB):QB:=QE #[Q I r.code,U r.text,b]
def jg (w0:E)(hb:Nat)(s0 s1:QB)(making:List ByteArray)(L:List SM)(w:E)(e:Ending)(w':E):Out Ent->Prop
 | .inl (made',x)=>∃ b g f h,e=QD (QE #[Q I (cR x).code,U (cR x).text,Z Y 0 0])/\SI w0 hb s0 s1 w' making made' b g f h/\fE b making made'/\LExt w.heap.size L b/\KS w0.heap.size XN w w'
 | .inr (.inl c)=>∃ a k,e=QD (gK (jw c) (Z a c.length k))/\ij w0 hb w' (jw c) (Z a c.length k)/\KS w0.heap.size XN w w'
 | .inr (.inr d)=>e=QD (gK (jx d) (Z Y 0 0))/\ij w0 hb w' (jx d) (Z Y 0 0)/\KS w0.heap.size XN w w'
def eJ (S:Spc)(making:List ByteArray)(made:List Ent)(k:Nat):Prop:=made.length+201*dG S making made+k<=50000
def MT (S:Spc)(making:List ByteArray):Prop:=∀ t∈making,(atI (nm1 S.f1) S.n1 t).isSome=QC
def mu (w0:E)(S:Spc)(hb:Nat)(s0 s1:QB)(n:Nat):Prop:=∀ making made L md or st w nm,making.length+n=60->SI w0 hb s0 s1 w making made L md or st->fE L making made->PG S making made->eJ S making made 1->MT S making->au nm=QC ->
 Calls Tryz.prog 167 #[.pointer (N (J hb 0 Y)),U nm] w fun e w'=>jg w0 hb s0 s1 making L w e w' (aL S n making made nm)
theorem eZ {e:QF}{z:QB}{a b:Nat}(h:(Tryz.prog.info? e).map (fun i=>(i.zero,i.size,i.bytes))=N (N z,a,b)):∃ i,Tryz.prog.info? e=N i/\i.zero=N z/\i.size=a/\i.bytes=b:=by
 cases hi:Tryz.prog.info? e with
 | none=>rw[hi] at h;cases h
 | some i =>rw[hi] at h;simp only[LI,E2,C9] at h;exact⟨i,rfl,h⟩
theorem gL:(Tryz.prog.info? 9).map (fun i=>(i.zero,i.size,i.bytes))=N (N (U ⟨#[]⟩),1,16):=by kernel_rfl
theorem xu:(Tryz.prog.info? 66).map (fun i=>(i.zero,i.size,i.bytes))=N (N (QE #[QA D,Q I 0,U ⟨#[]⟩]),3,32):=by kernel_rfl
theorem Bc:(Tryz.prog.info? 242).map (fun i=>(i.zero,i.size,i.bytes))=N (N (QE #[U ⟨#[]⟩,QA D,QA D]),3,24):=by kernel_rfl
theorem kY:(Tryz.prog.info? 239).map (fun i=>(i.zero,i.size,i.bytes))=N (N (QE #[U ⟨#[]⟩,Q I 0,U ⟨#[]⟩,Z Y 0 0,Z Y 0 0,QA D]),6,96):=by kernel_rfl
def kZ (b:List aA):List QB:=b.flatMap fun r=>[QA r.has,Q I r.code,U r.text]
theorem Bd (b:List aA)(r:aA):kZ (b++[r])=kZ b++[QA r.has,Q I r.code,U r.text]:=by simp[kZ]
theorem yS (b:List Lk)(l:Lk):eY (b++[l])=eY b++[U l.name,QA l.ask,QA l.has]:=by simp[eY]
theorem Dx {w:E}{f g c:Nat}{b:List aA}(h:w.ownsRow f 66 3 (Z (N (J g 0 Y)) b.length c) b.length (kZ b)):RowReply w g 0 b.length (yL b):=by
 obtain⟨_,m,cs,hc⟩:=af h g rfl;refine⟨m,fun i hi=>?_⟩;have n:b[i]?=N (yL b i):=by simp[yL,gq hi]
 have d:∀ j u,j<3->([Value.bool (yL b i).has,Q I (yL b i).code,U (yL b i).text]:List QB)[j]?=N u->w.cell? (J g (i*3+j) Y)=N u:=fun j u l k=>by have h1:=h.cells (g:=g) rfl (i*3+j) u (by rw[kZ,cS (fun r:aA=>[QA r.has,Q I r.code,U r.text]) 3 (fun _=>rfl) b i j l _ n];exact k);rw[addr_add,DC] at h1;exact h1
 refine⟨?_,?_,?_⟩
 ·rw[DC];exact d 0 _ (by omega) rfl
 ·rw[DC];exact d 1 _ (by omega) rfl
 ·rw[DC];exact d 2 _ (by omega) rfl
theorem jW (w:E)(e:QF)(size:Nat):(w.alloc (T #[] e)).ownsRow w.heap.size e size (Z (N (J w.heap.size 0 Y)) 0 0) 0 [] :=
 ⟨by simp,.inr ⟨w.heap.size,0,#[],rfl,j6 _,eL _ _,j6 _,CS _,by simp,by simp⟩⟩
theorem yT {S:Spc}(g:SpcOk S){tg:Nat}(h:tg<S.n1){b:List aA}(d:∀ y∈b,bT y=QC)(hl:b.length<=200):mC (S.f1 tg).act (S.f1 tg).actN (yL b) b.length=bF S tg b:=by
 unfold mC;have i:bR (yL b) b.length=QC:=by
  have:∀ k,bR (yL b) k=QC:=fun k=>by
   induction k with
   | zero=>rfl
   | succ k f=>rw[bR,f,wY d k];rfl
  exact this _
 rw[a8 (by rw[g.act tg h];simp),a8 (by omega),a8 (by rw[i];simp)];rfl
theorem Be {S:Spc}(b:SpcOk S){tg:Nat}(d:tg<S.n1):∀ i,i<(S.f1 tg).actN->((S.f1 tg).act i).s.size<=maxLen:=fun i hi=>by
 have h1:=jj (bY (b.act tg d)).1 hi;simp only[cD,j4] at h1;obtain⟨i1,i2,i3,i4,i5⟩:=h1;have hmt2:bP ((S.f1 tg).act i).op<=2000:=by unfold bP;split<;>omega
 unfold maxLen;omega
section
variable {w0:E}{S:Spc}{a0 a1:Option Addr}{c0 c1 hb:Nat}{md or st:QB}{making:List ByteArray}{made:List Ent}{L:List SM}
theorem nL (C:kX w0 S a0 a1)(w:E)(t:ByteArray)(d:Below w0.heap.size w0 w)(l:hb<w.heap.size)(k:w.cell? (J hb 0 Y)=N (Z a0 S.n0 c0))(j:w.cell? (J hb 1 Y)=N (Z a1 S.n1 c1)):Calls Tryz.prog 243 #[.pointer (N (J hb 0 Y)),U t] w fun e w'=>e=QD (QA (fh S t))/\Below w.heap.size w w':=by
 have q:=ae C;have n:=ae d;have hsm:=C.ok.small;obtain⟨R,hR⟩:∃ R,R=fh S t:=⟨_,rfl⟩
 rw[<-hR];have m:Hid (R=((atI (nm0 S.f0) S.n0 t).isSome || (atI (nm1 S.f1) S.n1 t).isSome)):=by show _=_;rw[hR];unfold fh;rw[ii,ii]
 clear C d hR;go_enter Tryz.func243,Tryz.ntmps243;go_wp2_with fail;refine(fa a0 S.n0 c0 a1 S.n1 c1 S.f0 t w (by omega) (q.src.below n lr)).mono ?_;rintro e o ⟨rfl,b⟩;have x:=(b.cell (p:=(J hb 0 Y)) l).trans k;have u:=(b.cell (p:=(J hb 1 Y)) l).trans j;have hl1:hb<o.heap.size:=ll l b.size;have g:=ae b;clear b k j;cases h0:atI (nm0 S.f0) S.n0 t with
 | some i =>
  have h:=ae h0;clear h0;have s:(0:Int)<=(i:Int):=by omega
  simp only[dk];go_wp2;go_ret;exact⟨by rw[m.out,h.out];rfl,g⟩
 | none =>
  have h:=ae h0;clear h0;simp only[dk];go_wp2_with fail;refine(fb a0 S.n0 c0 a1 S.n1 c1 S.f1 t o (by omega) (q.tgt.below (n.trans (g.mono n.size)) lr)).mono ?_;rintro e w2 ⟨rfl,b⟩;have r:=ae (g.trans (b.mono g.size));clear b x u;cases h1:atI (nm1 S.f1) S.n1 t with
  | some i =>
   have f:=ae h1;clear h1;have s:(0:Int)<=(i:Int):=by omega
   simp only[dk];go_wp2;go_ret;exact⟨by rw[m.out,h.out,f.out];simp,r⟩
  | none =>have f:=ae h1;clear h1;simp only[dk];go_wp2;go_ret;exact⟨by rw[m.out,h.out,f.out];rfl,r⟩
end
theorem nM (w:E):(zeroValue 274).run Tryz.prog w=.ok (QE #[Q I 0,.pointer Y]) w:=by kernel_rfl
theorem jy (made:List Ent)(nm:ByteArray):made.find? (fun e=>e.name.toList == nm.toList)=aK made nm:=rfl
theorem qp {G:ByteArray->Nat}{mm:List ByteArray}{made:List Ent}{nm:ByteArray}{e:Ent}(h:aK made nm=N e):dw G mm made nm.toList=N (QE #[Q I 0,.pointer (N (J (G e.name) 0 Y))]):=by unfold dw;rw[jy,h]
theorem gT {G:ByteArray->Nat}{mm:List ByteArray}{made:List Ent}{nm:ByteArray}(h:aK made nm=Y):dw G mm made nm.toList=(atL mm nm).map fun(i:Nat)=>QE #[Q I (i:Int),.pointer Y]:=by unfold dw;rw[jy,h];rfl
section
variable {w0:E}{S:Spc}{mb mp:Nat}{s0 s1 mk md:QB}{mm making:List ByteArray}{made:List Ent}{G:ByteArray->Nat}{V:ByteArray->QB}
theorem Bf (w:E)(nm:ByteArray)(h:MI w0 S mb mp s0 s1 w mm making made G V mk md)(hn:nm.size<=60)(e:Ent)(b:aK made nm=N e):Calls Tryz.prog 159 #[.pointer (N (J mb 0 Y)),U nm] w fun r w'=>r=QD (.pointer (N (J (G e.name) 0 Y)))/\Below w.heap.size w w':=by
 have f:=ae (show(dw G mm made nm.toList).getD (QE #[Q I 0,.pointer Y])=QE #[Q I 0,.pointer (N (J (G e.name) 0 Y))] by rw[qp b];rfl);have i:=ae (show(dw G mm made nm.toList).isSome=QC by rw[qp b];rfl);have j:=ae h;obtain⟨hl,-,-,c2,-,-,-⟩:=h.box.facts;have d:nm.size<=maxLen:=by unfold maxLen;omega
 have hz:=nM;have g:=ae ((Qs w).alloc lr (T #[Q I 0,.pointer (N (J (G e.name) 0 Y))] 274));clear h b;go_enter Tryz.func159,Tryz.ntmps159
 go_wp2_with (first
  | (at_lookup;refine iv _ rfl _ _ 202 rfl 274 Tryz.underlying202 (hz _) mp _ _ rfl j.map nm rfl d _ f QC i ?_)
  | fail)
 go_ret;exact⟨rfl,g⟩
theorem us (w:E)(nm:ByteArray)(h:MI w0 S mb mp s0 s1 w making making made G V mk md)(hn:nm.size<=60)(QH:making.length<=60)(H:aK made nm=Y)(i:Nat)(hi:atL making nm=N i):Calls Tryz.prog 159 #[.pointer (N (J mb 0 Y)),U nm] w fun r w'=>∃ v,r=.panicked [{ v:=.iface 269 (QE #[v]),recovered:=D }]/\w'.ownsRow w.heap.size 9 1 v (making.drop i).length (bq (making.drop i))/\Below w.heap.size w w':=by
 have X:=ae (show(dw G making made nm.toList).getD (QE #[Q I 0,.pointer Y])=QE #[Q I (i:Int),.pointer Y] by rw[gT H,hi];rfl);have R:=ae (show(dw G making made nm.toList).isSome=QC by rw[gT H,hi];rfl);have HM:=ae h;obtain⟨QJ,-,-,c2,c3,-,-⟩:=h.box.facts;have QN:i<making.length:=by unfold atL at hi;exact(List.findIdx?_eq_some_iff_findIdx_eq.1 hi).1
 obtain⟨g,b,cur,rfl,hg1,A,P,hg4,QL,L⟩:=h.rmk.2.resolve_left fun h=>by omega
 have HC:=ae (h.rmk.cells (g:=g) rfl);have QM:nm.size<=maxLen:=by unfold maxLen;omega
 have hz:=nM;have d:=ae ((Qs w).alloc lr (T #[Q I (i:Int),.pointer Y] 274));have QO:g<w.heap.size:=ai A;obtain⟨n,m⟩:∃ n,n=making.length:=⟨_,rfl⟩
 rw[<-m] at QN QH c3 P;have B:=ae m;clear m;have k:=(d.cell (p:=(J mb 3 Y)) QJ).trans c3;have t:(w.alloc (T #[Q I (i:Int),.pointer Y] 274)).cell? (J w.heap.size 0 Y)=N (Q I (i:Int)):=by simp
 clear h H A QL L hi;go_enter Tryz.func159,Tryz.ntmps159
 go_wp2_with (first
  | (at_lookup;refine iv _ rfl _ _ 202 rfl 274 Tryz.underlying202 (hz _) mp _ _ rfl HM.map nm rfl QM _ X QC R ?_)
  | fail)
 clear c2 c3;have C:w.heap.size<(w.alloc (T #[Q I (i:Int),.pointer Y] 274)).heap.size:=by simp
 generalize w.alloc (T #[Q I (i:Int),.pointer Y] 274)=u at d k t C ⊢;have hI0:(0:Int)<=(i:Int):=by omega
 have hI1:(i:Int)<=(n:Int):=by omega
 have hI2:(n:Int)<=(b:Int):=by omega
 have hcl:¬ b=i:=by omega
 have y:mb<u.heap.size:=by have:=d.size;omega
 have z:w.heap.size<u.heap.size:=C;have O:Hid (∀ W,Below w.heap.size w W->∀ j,j<(making.drop i).length->W.cell? (J g (i+j) Y)=N (U ((making.drop i).getD j ByteArray.empty))):=fun W hW j QK=>by
  rw[II] at QK
  have h1:=HC.out (i+j) (U ((making.drop i).getD j ByteArray.empty)) (by
   rw[bq,IE,gq (by omega)]
   simp[vG,NJ,gq (show i+j<making.length by omega)])
  exact(hW.cell (p:=(J g (i+j) Y)) QO).trans (by rw[addr_add,DC] at h1;exact h1)
 refine wp_region_held_drew (S:=fun V=>V.cell? (J mb 3 Y)=N (Z (N (J g 0 Y)) n b)/\V.cell? (J w.heap.size 0 Y)=N (Q I (i:Int))) (by as_aux_lemma=>kernel_rfl) ⟨k,t⟩ (fun M=>?_);have s:=ae M;clear M
 iterate 7
  first | refine bS 0 (v:=?_) rfl rfl (by as_aux_lemma=>kernel_rfl) (fun _ _ _ h=>h) rfl ?_ s ?_ | refine bS 4 (v:=?_) rfl rfl (by as_aux_lemma=>kernel_rfl) (fun _ _ _ h=>h) rfl ?_ s ?_
  rotate_left
  ·(intro wz o;obtain⟨s0,s1⟩:=o;go_simp)
   (try with_reducible rfl)
  (try simp only[Act.put,nzL])
 refine bN (i:=7) rfl (by as_aux_lemma=>kernel_rfl) (fun K QP=>?_);go_simp;go_at_call 213;refine(Tryz.slices_Clone_string g i (n - i) (b - i) (making.drop i) _ (by rw[II,<-B.out];exact j6 _) (by omega) (O _ d.drew)).mono ?_;rintro e QQ ⟨v2,rfl,f,x,l⟩;have O2:=ae f;obtain⟨g2,cap2,cur2,rfl,q1,q2⟩:=f.2.resolve_left (fun h=>x h.1);have q:Hid (Below u.heap.size u QQ):=⟨l.os,l.tape,l.output,l.size,l.block⟩
 clear f l q1 q2 x;refine QP _ _ ⟨(q.cell (p:=(J mb 3 Y)) y).trans k,(q.cell (p:=(J w.heap.size 0 Y)) z).trans t⟩ ?_;clear QP K s;have s:Hid (QQ.cell? (J mb 3 Y)=N (Z (N (J g 0 Y)) n b)/\QQ.cell? (J w.heap.size 0 Y)=N (Q I (i:Int))):=⟨(q.cell (p:=(J mb 3 Y)) y).trans k,(q.cell (p:=(J w.heap.size 0 Y)) z).trans t⟩
 (try simp only[Act.put,nzL])
 iterate 2
  refine bS 8 (v:=?_) rfl rfl (by as_aux_lemma=>kernel_rfl) (fun _ _ _ h=>h) rfl ?_ s ?_;rotate_left
  ·(intro wz o;obtain⟨s0,s1⟩:=o;go_simp)
   (try with_reducible rfl)
  (try simp only[Act.put,nzL])
 refine bN (i:=10) rfl (by as_aux_lemma=>kernel_rfl) (fun K QP=>?_);go_simp;refine⟨rfl,_,rfl,?_,?_⟩
 ·have h1:=aI (base':=w.heap.size) O2 d.size
  have QG:(making.drop i).length=n - i:=by rw[II,<-B.out]
  rw[QG];rw[IZ (by omega)] at h1;exact h1
 ·exact d.trans (q.mono d.size)
end
def lc {b:Type}(f:ByteArray->b)(nm:ByteArray)(v:b):ByteArray->b:=fun t=>if t.toList=nm.toList then v else f t
theorem eN {b:Type}(f:ByteArray->b)(nm:ByteArray)(v:b):lc f nm v nm=v:=eT rfl
theorem iH {b:Type}(f:ByteArray->b){nm t:ByteArray}(v:b)(h:t≠nm):lc f nm v t=f t:=a8 fun e=>h (eP e)
theorem xv {G:ByteArray->Nat}{making:List ByteArray}{made:List Ent}{nm:ByteArray}(b:aK made nm=Y)(h1:atL making nm=Y)(s:List UInt8):(if s=nm.toList then N (QE #[Q I (making.length:Int),.pointer Y]) else dw G making made s)=dw G (making++[nm]) made s:=by
 unfold dw;by_cases e:s=nm.toList
 ·subst e
  rw[eT rfl,jy,b,LA,show List.findIdx? (fun x:ByteArray=>x.toList == nm.toList) making=Y from h1];simp[LM]
 ·rw[a8 e,LA]
  have d:(nm.toList == s)=D:=by simpa using fun h=>e h.symm
  cases made.find? (fun e=>e.name.toList == s) with
  | some x=>rfl
  | none=>simp[LM,d]
theorem Bg {G b:ByteArray->Nat}{mm making:List ByteArray}{made:List Ent}{nm:ByteArray}{x:Ent}{d:Nat}(k:aK made nm=Y)(f:x.name=nm)(i:∀ y∈made,b y.name=G y.name)(j:b nm=d)(l:mm=making∨mm=making++[nm])(s:List UInt8):(if s=nm.toList then N (QE #[Q I 0,.pointer (N (J d 0 Y))]) else dw G mm made s)=dw b making (made++[x]) s:=by
 unfold dw;rw[List.find?_append];by_cases e:s=nm.toList
 ·subst e
  rw[eT rfl,jy,k];simp[f,j]
 ·rw[a8 e]
  have g:(nm.toList == s)=D:=by simpa using fun h=>e h.symm
  cases hf:made.find? (fun e=>e.name.toList == s) with
  | some y =>simp only[Option.some_or];rw[i y (LD hf)]
  | none =>
   have h2:List.find? (fun e:Ent=>e.name.toList == s) [x]=Y:=by simp[f,g]
   rw[h2];rcases l with rfl | rfl
   ·rfl
   ·simp[LA,LM,g]
section
variable {w0 w:E}{S:Spc}{mb mp:Nat}{s0 s1 mk md:QB}{mm making:List ByteArray}{made:List Ent}{G:ByteArray->Nat}{V:ByteArray->QB}
theorem EntAt.congr {d:ByteArray->Nat}{b:Nat}{v:QB}{x:Ent}(h:EntAt w0 S G w b v x)(g:∀ l∈x.looks,l.ask=QC->d l.name=G l.name):EntAt w0 S d w b v x:=by obtain⟨h1,h2,f⟩:=h;refine⟨h1,h2,?_⟩;rw[mT g];exact f
theorem MIg.added {nm:ByteArray}{x:Ent}{g cnt:Nat}{v:QB}(h:MIg w0 S mb mp s0 s1 w cnt (fun s=>if s=nm.toList then N (QE #[Q I 0,.pointer (N (J g 0 Y))]) else dw G mm made s) making.length (bq making) (made.length+1) (jf G made++[.pointer (N (J g 0 Y))]) made G V mk md)(u:PG S making made)(r:aK made nm=Y)(n:x.name=nm)
  (QQ:mm=making∨mm=making++[nm]) (t:cnt<=2*(made.length+1)+making.length) (C:EntAt w0 S G w g v x) (B:∀ y∈made,G y.name≠g) (k:∀ l∈x.looks,l.ask=QC->∃ y∈made,y.name=l.name) :
  MI w0 S mb mp s0 s1 w making making (made++[x]) (lc G nm g) (lc V nm v) mk md:=by
 have o:=dd r;have f:∀ y∈made,lc G nm g y.name=G y.name:=fun y d=>iH _ _ (o y d);have A:∀ y∈made,lc V nm v y.name=V y.name:=fun y d=>iH _ _ (o y d);have m:(made++[x]).length=made.length+1:=by simp
 refine⟨h.bel,h.mbB,h.mpB,h.box,h.rmk,?_,?_,fun y d=>?_,?_⟩
 ·have e:jf (lc G nm g) (made++[x])=jf G made++[.pointer (N (J g 0 Y))]:=by
   simp only[jf,FB,LG,LV,n,eN];rw[List.map_congr_left fun y d=>by rw[f y d]]
  rw[e,m];exact h.rmd
 ·rw[m]
  exact(h.map.mono t).congr fun s=>Bg r n f (eN _ _ _) QQ s
 ·rcases kS.1 d with d | d
  ·rw[f y d,A y d]
   refine(h.ents y d).congr fun l m k=>?_;obtain⟨i,hi⟩:=I8 d;obtain⟨j,z,_,hz,p⟩:=u.ord i y hi l m k;rw[<-p];exact f z (EQ hz)
  ·rw[j3.1 d,n,eN,eN]
   refine C.congr fun l m q=>?_;obtain⟨z,hz,p⟩:=k l m q;rw[<-p];exact f z hz
 ·rw[IY]
  refine⟨?_,LP _ _,fun a k b hb=>?_⟩
  ·exact h.dist.imp_of_mem fun {a b} k hb h=>by rw[f a k,f b hb];exact h
  ·rw[j3.1 hb,n,eN,f a k]
   exact B a k
structure Ext (n:Nat)(made made':List Ent)(G G':ByteArray->Nat)(V V':ByteArray->QB):Prop where
 pre:∃ more,made'=made++more
 same:∀ x∈made,G' x.name=G x.name/\V' x.name=V x.name
 new:∀ x∈made',x∈made∨(n<=G' x.name/\∀ k,(V' x.name).ownBlock=N k->n<=k)
theorem Ext.refl (n:Nat)(made:List Ent)(G:ByteArray->Nat)(V:ByteArray->QB):Ext n made made G G V V:=⟨⟨[],by simp⟩,fun _ _=>⟨rfl,rfl⟩,fun _ h=>.inl h⟩
theorem Ext.mem {n:Nat}{made b:List Ent}{G g:ByteArray->Nat}{V d:ByteArray->QB}(h:Ext n made b G g V d):∀ x∈made,x∈b:=by obtain⟨more,e⟩:=h.pre;intro x f;rw[e];exact IJ _ f
theorem Ext.trans {n m:Nat}{a b c:List Ent}{r o j:ByteArray->Nat}{l t s:ByteArray->QB}(h:Ext n a b r o l t)(k:Ext m b c o j t s)(f:n<=m):Ext n a c r j l s:=by
 obtain⟨p,u⟩:=h.pre;obtain⟨q,y⟩:=k.pre;refine⟨⟨p++q,by rw[y,u,IB]⟩,fun x d=>?_,fun x d=>?_⟩
 ·obtain⟨z,A⟩:=h.same x d
  obtain⟨g,i⟩:=k.same x (h.mem x d);exact⟨g.trans z,i.trans A⟩
 ·rcases k.new x d with hb | ⟨h1,h2⟩
  ·obtain⟨g,i⟩:=k.same x hb
   rcases h.new x hb with B | ⟨h1,h2⟩
   ·exact .inl B
   ·exact .inr ⟨by rw[g];exact h1,by rw[i];exact h2⟩
  ·exact .inr ⟨j5 f h1,fun k C=>j5 f (h2 k C)⟩
theorem Ext.mono {n m:Nat}{a b:List Ent}{f j:ByteArray->Nat}{i g:ByteArray->QB}(h:Ext n a b f j i g)(d:m<=n):Ext m a b f j i g :=
 ⟨h.pre,h.same,fun x o=>(h.new x o).imp id fun⟨h1,h2⟩=>⟨j5 d h1,fun k l=>j5 d (h2 k l)⟩⟩
theorem Dy {n:Nat}{made:List Ent}{nm:ByteArray}{x:Ent}{f:Nat}{v:QB}(d:aK made nm=Y)(g:x.name=nm)(h1:n<=f)(h2:∀ k,v.ownBlock=N k->n<=k):Ext n made (made++[x]) G (lc G nm f) V (lc V nm v):=by
 refine⟨⟨_,rfl⟩,fun y b=>⟨iH _ _ (dd d y b),iH _ _ (dd d y b)⟩,fun y b=>?_⟩;rcases kS.1 b with b | b
 ·exact .inl b
 ·rw[j3.1 b,g,eN,eN]
  exact .inr ⟨h1,h2⟩
theorem EU.step {w':E}{p tg:Nat}{nm:ByteArray}{j:List Lk}{v:QB}{d:List Ent}{o:ByteArray->Nat}{t:ByteArray->QB}(h:EU w0 S w p nm tg G j v made V)(s:KX w0.heap.size XN w w')(g:Ext w.heap.size made d G o V t):EU w0 S w' p nm tg o j v d t:=by
 obtain⟨⟨a,r,hb,i⟩,u,n,A,q,has⟩:=h;have z:∀ l∈j,l.ask=QC->o l.name=G l.name:=fun l m i=>by obtain⟨x,b,e⟩:=has l m i;rw[<-e];exact(g.same x b).1
 have hebl:=ai hb;refine⟨⟨a,r,(s.blk _ _ _ _ hb (by decide) (by decide) (by decide) fun h=>h).trans hb,i⟩,u,?_,fun x b=>?_,fun x b k f=>?_,fun l m i=>?_⟩
 ·rw[mT z]
  refine bI n fun k f=>?_;obtain⟨_,_,cs,y⟩:=af n k f;exact s.blk k _ _ _ y (by decide) (by decide) (by decide) fun h=>h
 ·rcases g.new x b with b | ⟨h1,_⟩
  ·rw[(g.same x b).1];exact A x b
  ·omega
 ·rcases g.new x b with b | ⟨_,h1⟩
  ·rw[(g.same x b).2];exact q x b k f
  ·intro e
   have:=h1 k e;have:=(af n k f).2.1;omega
 ·obtain⟨x,b,e⟩:=has l m i
  exact⟨x,g.mem x b,e⟩
end
structure Ctx (w0:E)(S:Spc)(a0:Option Addr)(c0:Nat)(a1:Option Addr)(c1:Nat):Prop where
 src:SlSource w0 a0 S.n0 S.f0
 tgt:SlTarget w0 a1 S.n1 S.f1
 ok:SpcOk S
 tab:Tab2 w0
 pow:Pow w0
 sz:∀ i,i<S.n0->(S.f0 i).text.size<=maxLen
def ts (w0:E)(S:Spc)(mb mp:Nat)(s0 s1:QB)(making:List ByteArray)(made:List Ent)(G:ByteArray->Nat)(V:ByteArray->QB)(w:E)(e:Ending)(w':E):Out Ent->Prop
 | .inl (made',x)=>∃ b h f g,e=QD (.pointer (N (J (b x.name) 0 Y)))/\MI w0 S mb mp s0 s1 w' making making made' b h f g/\Ext w.heap.size made made' G b V h/\KX w0.heap.size XN w w'
 | .inr (.inl c)=>∃ v,e=.panicked [{ v:=.iface 269 (QE #[v]),recovered:=D }]/\w'.ownsRow w0.heap.size 9 1 v c.length (bq c)/\Below w0.heap.size w w'
 | .inr (.inr d)=>e=.panicked [{ v:=.iface 271 (QE #[U d]),recovered:=D }]/\Below w0.heap.size w w'
def ed (S:Spc)(making:List ByteArray)(made:List Ent)(k:Nat):Prop:=made.length+201*dG S making made+k<=50000
def ji (w0:E)(S:Spc)(mb mp:Nat)(s0 s1:QB)(n:Nat):Prop:=∀ making made G V mk md w nm,making.length+n=60->MI w0 S mb mp s0 s1 w making making made G V mk md->PG S making made->ed S making made 1->au nm=QC ->
 Calls Tryz.prog 159 #[.pointer (N (J mb 0 Y)),U nm] w fun e w'=>ts w0 S mb mp s0 s1 making made G V w e w' (aL S n making made nm)
theorem oN {e:QF}{z:QB}{a b:Nat}(h:(Tryz.prog.info? e).map (fun i=>(i.zero,i.size,i.bytes))=N (N z,a,b)):∃ i,Tryz.prog.info? e=N i/\i.zero=N z/\i.size=a/\i.bytes=b:=by
 cases hi:Tryz.prog.info? e with
 | none=>rw[hi] at h;cases h
 | some i =>rw[hi] at h;simp only[LI,E2,C9] at h;exact⟨i,rfl,h⟩
theorem vm:(Tryz.prog.info? 212).map (fun i=>(i.zero,i.size,i.bytes))=N (N (QE #[U ⟨#[]⟩,QA D,QA D,Q I 0,.pointer Y]),5,40):=by kernel_rfl
theorem Bh:(Tryz.prog.info? 9).map (fun i=>(i.zero,i.size,i.bytes))=N (N (U ⟨#[]⟩),1,16):=by kernel_rfl
theorem Bi:(Tryz.prog.info? 124).map (fun i=>(i.zero,i.size,i.bytes))=N (N (.pointer Y),1,8):=by kernel_rfl
abbrev tu (t:QF):Prop:=t≠9/\t≠124/\t≠204/\t≠127/\t≠212
section
variable {w0 w:E}{S:Spc}{mb mp:Nat}{s0 s1 mk md:QB}{cnt nk np:Nat}{F:List UInt8->Option QB}{ks ps:List QB}{made:List Ent}{G:ByteArray->Nat}{V:ByteArray->QB}
theorem MIg.setOff {b:Nat}{g:Array QB}{t:QF}{fz:Nat × Nat}(h:MIg w0 S mb mp s0 s1 w cnt F nk ks np ps made G V mk md)(hb:w.heap[b]?=N (T g t fz))(r:tu t)(A:w0.heap.size<=b)(j:Nat)(u:QB):MIg w0 S mb mp s0 s1 (w.setCell (J b j Y) u) cnt F nk ks np ps made G V mk md:=by
 have B:KX w0.heap.size (fun i=>i=b) w (w.setCell (J b j Y) u):=KX.setCell (X:=fun i=>i=b) w A (Or.inl rfl) u;obtain⟨q,s,y,C,z⟩:=r;refine h.kx B (fun i o hi m=>qh _ _ _ _ fun e=>m e) (fun e=>?_) (fun e=>?_) (fun k d e=>?_) (fun k d e=>?_) (fun x p=>⟨fun e=>?_,fun k d e=>?_⟩)
 ·subst e;exact y (ah hb h.box)
 ·obtain⟨es,c,n⟩:=h.map.isMap
  rw[e,hb] at n;cases n
 ·subst e;obtain⟨_,_,g,f⟩:=af h.rmk _ d;exact q (ah hb f)
 ·subst e;obtain⟨_,_,g,f⟩:=af h.rmd _ d;exact s (ah hb f)
 ·obtain⟨act,l,_⟩:=(h.ents x p).blk
  rw[e] at l;exact C (ah hb l)
 ·subst e;obtain⟨_,_,g,f⟩:=af (h.ents x p).row _ d;exact z (ah hb f)
theorem EU.setOff {b i tg:Nat}{nm:ByteArray}{g:List Lk}{v:QB}{f:Array QB}{t:QF}{fz:Nat × Nat}(h:EU w0 S w i nm tg G g v made V)(hb:w.heap[b]?=N (T f t fz))(p:tu t)(j:Nat)(u:QB):EU w0 S (w.setCell (J b j Y) u) i nm tg G g v made V:=by
 obtain⟨⟨a,m,d,s⟩,n,k,q,l,has⟩:=h;obtain⟨t1,t2,t3,x,r⟩:=p;refine⟨⟨a,m,(qh _ _ _ _ fun e=>?_).trans d,s⟩,n,az k (fun e=>?_) _ _,q,l,has⟩
 ·simp at e;subst e;exact x (ah hb d)
 ·obtain⟨_,_,f,o⟩:=af k _ e;exact r (ah hb o)
theorem EU.below {w':E}{g tg C:Nat}{nm:ByteArray}{f:List Lk}{v:QB}(h:EU w0 S w g nm tg G f v made V)(hb:Below C w w')(d:w.heap.size<=C):EU w0 S w' g nm tg G f v made V:=by obtain⟨⟨a,j,b,n⟩,k,m,l,i,has⟩:=h;exact⟨⟨a,j,(hb.block _ (ll (ai b) d)).trans b,n⟩,k,own_below m hb d,l,i,has⟩
theorem EntBlk.facts {b:Nat}{nm text:ByteArray}{kind code place:Int}{act d:QB}(h:EntBlk w b nm kind code text act d place):b<w.heap.size/\w.cell? (J b 0 Y)=N (U nm)/\w.cell? (J b 1 Y)=N (Q I kind)/\w.cell? (J b 2 Y)=N (Q I code)/\w.cell? (J b 3 Y)=N (U text)/\w.cell? (J b 4 Y)=N act/\w.cell? (J b 5 Y)=N (Z Y 0 0)/\w.cell? (J b 6 Y)=N d/\w.cell? (J b 7 Y)=N (Q I place)/\∀ j,w.frozen? (J b j Y)=D:=by unfold EntBlk at h;refine⟨ai h,?_,?_,?_,?_,?_,?_,?_,?_,fun j=>?_⟩;all_goals simp[World.cell?,World.frozen?,h]
theorem EU.tied {i:E}{b tg:Nat}{nm:ByteArray}{j:List Lk}{v v':QB}{l:Lk}(h:EU w0 S w b nm tg G j v made V)(A:l.ask=QC->∃ x∈made,x.name=l.name)(QQ:w.grownBy i v.ownBlock)(p:i.ownsRow w0.heap.size 212 5 v' (j.length+1) (eX G j++kW G l))(QO:v'.ownBlock=v.ownBlock∨v'.ownBlock=N w.heap.size)(y:∀ x∈made,∀ k,(V x.name).ownBlock=N k->k<w.heap.size):EU w0 S (i.setCell (J b 6 Y) v') b nm tg G (j++[l]) v' made V:=by
 obtain⟨⟨a,r,g,B⟩,u,t,QP,q,has⟩:=h;have o:N b≠v.ownBlock:=fun e=>by obtain⟨_,_,C,m⟩:=af t b e.symm;exact absurd (ah g m) (by decide)
 have d:i.heap[b]?=_:=(QQ.block b (ai g) o).trans g;refine⟨⟨a,r,aw d v',B⟩,u,?_,QP,fun x s k n=>?_,fun z hz f=>?_⟩
 ·rw[yR,cM,p8]
  refine az p (fun e=>?_) _ _;obtain⟨_,_,C,m⟩:=af p b e;exact absurd (ah d m) (by decide)
 ·rcases QO with e | e
  ·exact q x s k (by rw[<-e];exact n)
  ·rw[e] at n
   cases n
   intro H;have:=y x s _ H;omega
 ·rcases kS.1 hz with hz | hz
  ·exact has z hz f
  ·rw[j3.1 hz] at f ⊢;exact A f
theorem MIg.tied {m:E}{n tg:Nat}{nm:ByteArray}{QQ:List Lk}{v v':QB}(h:MIg w0 S mb mp s0 s1 w cnt F nk ks np ps made G V mk md)(H:EU w0 S w n nm tg G QQ v made V)(A:w.grownBy m v.ownBlock):MIg w0 S mb mp s0 s1 (m.setCell (J n 6 Y) v') cnt F nk ks np ps made G V mk md/\KX w0.heap.size (fun i=>i=n∨v.ownBlock=N i) w (m.setCell (J n 6 Y) v'):=by
 obtain⟨⟨a,cap,b,ha⟩,C,g,QO,y,has⟩:=H;have QP:KX w0.heap.size (fun i=>i=n∨v.ownBlock=N i) w m:=KX.of_grown A h.lt fun j u=>⟨(af g j u).1,.inl (.inr u)⟩
 have QN:KX w0.heap.size (fun i=>i=n∨v.ownBlock=N i) m (m.setCell (J n 6 Y) v'):=KX.setCell m C (.inl (.inl rfl)) v';have B:=QP.trans QN fun _ _ h=>h;refine⟨h.kx B (fun i o hi r=>?_) (fun e=>?_) (fun e=>?_) (fun k l e=>?_) (fun k l e=>?_) (fun x q=>⟨fun e=>?_,fun k l e=>?_⟩),B⟩
 ·exact(qh _ _ _ _ fun e=>r (.inl e)).trans (A.block i (ai hi) fun e=>r (.inr e.symm))
 ·rcases e with e | e
  ·rw[<-e] at b;exact absurd (ah b h.box) (by decide)
  ·obtain⟨_,_,t,f⟩:=af g _ e;exact absurd (ah f h.box) (by decide)
 ·obtain⟨es,c,z⟩:=h.map.isMap
  rcases e with e | e
  ·unfold EntBlk at b;rw[<-e,z] at b;cases b
  ·obtain⟨_,_,t,f⟩:=af g _ e;rw[z] at f;cases f
 ·obtain⟨_,_,t,f⟩:=af h.rmk _ l
  rcases e with e | e
  ·rw[<-e] at b;exact absurd (ah b f) (by decide)
  ·obtain⟨_,_,p,d⟩:=af g _ e;exact absurd (ah f d) (by decide)
 ·obtain⟨_,_,t,f⟩:=af h.rmd _ l
  rcases e with e | e
  ·rw[<-e] at b;exact absurd (ah b f) (by decide)
  ·obtain⟨_,_,p,d⟩:=af g _ e;exact absurd (ah f d) (by decide)
 ·rcases e with e | e
  ·exact QO x q e
  ·obtain⟨act,s,_⟩:=(h.ents x q).blk
   obtain⟨_,_,p,d⟩:=af g _ e;exact absurd (ah s d) (by decide)
 ·rcases e with e | e
  ·obtain⟨_,_,p,d⟩:=af (h.ents x q).row _ l
   rw[<-e] at b;exact absurd (ah b d) (by decide)
  ·exact y x q k e l
theorem MIg.vlt (h:MIg w0 S mb mp s0 s1 w cnt F nk ks np ps made G V mk md):∀ x∈made,∀ k,(V x.name).ownBlock=N k->k<w.heap.size:=fun x d k b=>(af (h.ents x d).row k b).2.1
end
end Go.Proofs.YtkdimgejdocbbaaGreatDoor.Vp
namespace Go.Proofs.YtkdimgejdocbbaaGreatDoor.Vp
open RowKit Ca
theorem bX {w:E}{d size n:Nat}{e:QF}{v:QB}{f:List QB}(h:w.ownsRow d e size v n f):∃ a b,v=Z a n b:=by
 obtain⟨_,⟨rfl,rfl⟩ | ⟨g,b,cur,rfl,_⟩⟩:=h
 ·exact⟨Y,0,rfl⟩
 ·exact⟨_,_,rfl⟩
theorem vo (w:E)(k g d f i:QB)(t:QF):∀ j u,[k,g,d,f,i][j]?=N u->(w.alloc (T #[k,g,d,f,i] t)).cell? (((J w.heap.size 0 Y):Addr).add j)=N u:=by
 intro j u h;rw[addr_add];have hj:j<5:=by
  rcases IX j 5 with b | b
  ·exact b
  ·rw[IQ (by simp;omega)] at h;cases h
 rcases(show j=0∨j=1∨j=2∨j=3∨j=4 by omega) with rfl | rfl | rfl | rfl | rfl;all_goals
  simp at h;subst h;simp
section
variable {w0:E}{S:Spc}{a0 a1:Option Addr}{c0 c1 mb mp:Nat}{mk md:QB}{making:List ByteArray}{made:List Ent}{G:ByteArray->Nat}{V:ByteArray->QB}
def RepSt (w0:E)(S:Spc)(mb mp:Nat)(s0 s1:QB)(w w':E)(making:List ByteArray)(made:List Ent)(G:ByteArray->Nat)(V:ByteArray->QB)(mk md:QB)(b tg:Nat)(nm:ByteArray)(f:List Lk)(v d:QB):Prop :=
 MI w0 S mb mp s0 s1 w' making making made G V mk md/\EU w0 S w' b nm tg G f d made V/\KX w0.heap.size (fun i=>i=b∨v.ownBlock=N i) w w'/\∀ k,d.ownBlock=N k->v.ownBlock=N k∨w.heap.size<=k
theorem RepSt.set {w W:E}{s0 s1:QB}{g tg rb:Nat}{nm:ByteArray}{f:List Lk}{v m:QB}{d:Array QB}{t:QF}(h:RepSt w0 S mb mp s0 s1 w W making made G V mk md g tg nm f v m)(hb:W.heap[rb]?=N (T d t (0,0)))(k:tu t)(l:w0.heap.size<=w.heap.size)(b:w.heap.size<=rb)(j:Nat)(u:QB):RepSt w0 S mb mp s0 s1 w (W.setCell (J rb j Y) u) making made G V mk md g tg nm f v m/\(W.setCell (J rb j Y) u).heap[rb]?=N (T (d.setIfInBounds j u) t (0,0)) :=
 ⟨⟨h.1.setOff hb k (j5 l b) j u,h.2.1.setOff hb k j u,h.2.2.1.trans (KX.setCell (X:=fun i=>i=rb) W (j5 l b) (Or.inl rfl) u) (fun i hi e=>by have e2:i=rb:=e;omega),h.2.2.2⟩,aw hb u⟩
theorem cV {w:E}{b:Nat}{d g f:QB}{t:QF}(h:w.heap[b]?=N (T #[d,g,f] t (0,0))):b<w.heap.size/\w.cell? (J b 0 Y)=N d/\w.cell? (J b 1 Y)=N g/\w.cell? (J b 2 Y)=N f/\∀ j,w.frozen? (J b j Y)=D:=by refine⟨ai h,?_,?_,?_,fun j=>?_⟩;all_goals simp[World.cell?,World.frozen?,h]
def Fc (w W:E)(c0 c1 c2 c3 c4 c5:QB):Prop:=Hid (Below w.heap.size w W)/\W.cell? (J w.heap.size 3 Y)=N c3/\W.cell? (J w.heap.size 4 Y)=N c4/\W.heap.size=w.heap.size+2/\Hid (W.heap[w.heap.size+1]?=N (T #[QA D,Q I 0,U ⟨#[]⟩] 66 (0,0)))/\Hid (W.heap[w.heap.size]?=N (T #[c0,c1,c2,c3,c4,c5] 61 (0,0)))
theorem vq (w:E)(c0 c1 c2 c3 c4 c5:QB):Fc w ((w.alloc (T #[c0,c1,c2,c3,c4,c5] 61)).alloc (T #[QA D,Q I 0,U ⟨#[]⟩] 66)) c0 c1 c2 c3 c4 c5:=by refine⟨((Qs w).alloc lr _).alloc (by simp) _,by simp[go_sem],by simp[go_sem],by simp,?_,(((eI (w.heap.size+1) _).alloc (by simp) _).block w.heap.size (by omega)).trans (eL w _)⟩;have h2:=eL (w.alloc (T #[c0,c1,c2,c3,c4,c5] 61)) (T #[QA D,Q I 0,U ⟨#[]⟩] 66);rw[show(w.alloc (T #[c0,c1,c2,c3,c4,c5] 61)).heap.size=w.heap.size+1 by simp] at h2;exact h2
theorem yU (C:Ctx w0 S a0 c0 a1 c1)(w:E)(d tg:Nat)(nm:ByteArray)(b:List Lk)(v:QB)(QK:Turn)(h:MI w0 S mb mp (Z a0 S.n0 c0) (Z a1 S.n1 c1) w making making made G V mk md)(QN:EU w0 S w d nm tg G b v made V)(hls:b.length<=200)(O:QK.ask=D):Calls Tryz.prog 282 #[.pointer (N (J mb 0 Y)),.pointer (N (J d 0 Y)),QK.v] w fun e w'=>e=QD (QE #[QA (fh S QK.name),Q I 0,U ⟨#[]⟩])/\∃ v',RepSt w0 S mb mp (Z a0 S.n0 c0) (Z a1 S.n1 c1) w w' making made G V mk md d tg nm (b++[⟨QK.name,D,fh S QK.name⟩]) v v':=by
 obtain⟨i1,hi,n6,ph,sm⟩:=oN vm;obtain⟨o,q,rfl⟩:=bX QN.row;obtain⟨over,code,text,ask,name,steps⟩:=QK;simp only at O;subst O;obtain⟨QO,ro,z,mv,kr,-⟩:=vq w (QA over) (Q I code) (U text) (QA D) (U name) (Q I steps);have M:=ae (h.below QO lr);have U0:=ae (QN.below QO lr);have H:=ae C;have QP:w0.heap.size<=w.heap.size:=h.lt;have heb0:d<w.heap.size:=by obtain⟨⟨aa,ca,g,W⟩,-⟩:=QN;exact ai g
 have n7:Hid (N (w.heap.size+1)≠(Value.slice o b.length q).ownBlock):=fun e=>by have:=(af QN.row _ e.symm).2.1;omega
 have TN:Hid (N w.heap.size≠(Value.slice o b.length q).ownBlock):=fun e=>by have:=(af QN.row _ e.symm).2.1;omega
 clear h QN C;show Calls Tryz.prog 282 #[.pointer (N (J mb 0 Y)),.pointer (N (J d 0 Y)),QE #[QA over,Q I code,U text,QA D,U name,Q I steps]] w _;obtain⟨hb,QM⟩:∃ hb,hb=fh S name:=⟨_,rfl⟩
 have qr:=ae QM;rw[<-QM];clear QM;go_enter Tryz.func282,Tryz.ntmps282;go_wp2_with fail;clear ro;generalize (w.alloc (T #[QA over,Q I code,U text,QA D,U name,Q I steps] 61)).alloc (T #[QA D,Q I 0,U ⟨#[]⟩] 66)=QG at QO z mv kr M U0 ⊢;obtain⟨QQ,m0,QH,-⟩:=M.box.facts;refine wp_region_held_drew (S:=fun V=>V.cell? (J mb 0 Y)=N (Z a0 S.n0 c0)/\V.cell? (J mb 1 Y)=N (Z a1 S.n1 c1)/\V.cell? (J w.heap.size 4 Y)=N (U name)) (by as_aux_lemma=>kernel_rfl) ⟨m0,QH,z⟩ (fun hS=>?_);have n:=ae hS;clear hS
 iterate 6
  first | refine bS 0 (v:=?_) rfl rfl (by as_aux_lemma=>kernel_rfl) (fun _ _ _ h=>h) rfl ?_ n ?_ | refine bS 4 (v:=?_) rfl rfl (by as_aux_lemma=>kernel_rfl) (fun _ _ _ h=>h) rfl ?_ n ?_
  rotate_left
  ·(intro wz x;obtain⟨s0,s1,s2⟩:=x;go_simp)
   (try with_reducible rfl)
  (try simp only[Act.put,nzL])
 refine bN (i:=6) rfl (by as_aux_lemma=>kernel_rfl) (fun K j=>?_);go_simp;go_at_call 88;have R:Hid (Below w0.heap.size w0 QG.drew):=M.bel.drew;refine(o8 a0 S.n0 c0 S.f0 a1 S.n1 c1 S.f1 name _ (by have:=H.ok.small;omega) (by have:=H.ok.small;omega) (H.src.below R lr) (H.tgt.below R lr) H.ok.asc0 H.ok.asc1).mono ?_;rintro e f ⟨he,L⟩;rw[show(aF (nm0 S.f0) S.n0 name || aF (nm1 S.f1) S.n1 name)=hb from qr.symm] at he;subst he;have m:Hid (Below QG.heap.size QG f):=⟨L.os,L.tape,L.output,L.size,L.block⟩
 clear L R;have bt:w.heap.size<QG.heap.size:=by omega
 refine j _ _ ⟨(m.cell (p:=(J mb 0 Y)) QQ).trans m0,(m.cell (p:=(J mb 1 Y)) QQ).trans QH,(m.cell (p:=(J w.heap.size 4 Y)) bt).trans z⟩ ?_;clear j K n;have n:Hid (f.cell? (J mb 0 Y)=N (Z a0 S.n0 c0)/\f.cell? (J mb 1 Y)=N (Z a1 S.n1 c1)/\f.cell? (J w.heap.size 4 Y)=N (U name)):=⟨(m.cell (p:=(J mb 0 Y)) QQ).trans m0,(m.cell (p:=(J mb 1 Y)) QQ).trans QH,(m.cell (p:=(J w.heap.size 4 Y)) bt).trans z⟩
 (try simp only[Act.put,nzL])
 refine bS 7 (v:=?_) rfl rfl (by as_aux_lemma=>kernel_rfl) (fun _ _ _ h=>h) rfl ?_ n ?_;rotate_left
 ·(intro wz x;obtain⟨s0,s1,s2⟩:=x;go_simp)
  (try with_reducible rfl)
 (try simp only[Act.put,nzL])
 refine wpAnyH_done (by as_aux_lemma=>kernel_rfl) ?_ _;have A1:=ae (QO.trans (m.mono QO.size));have KW:=ae (KX.of_below (X:=XN) A1 lr QP);have M1:=ae (M.below m lr);have QL:=ae (U0.below m lr);have n4:=n.2.2;have n9:Hid (f.heap[w.heap.size+1]?=N (T #[QA D,Q I 0,U ⟨#[]⟩] 66 (0,0))):=(m.block _ (by omega)).trans kr;have hz1:w.heap.size+2<=f.heap.size:=by have:=m.size;omega
 clear n m0 QH z M U0 kr QO;go_wp2_with fail;obtain⟨⟨aa,ca,g,W⟩,-⟩:=QL.out;obtain⟨aq,-,-,-,-,-,-,e6,-,ef⟩:=g.facts;have ef6:=ef 6;have hebB:w0.heap.size<=d:=QL.ge;clear g W ef;have SQ:Hid (∀ V:E,(∀ k,k<f.heap.size->N k≠(Value.slice o b.length q).ownBlock->V.heap[k]?=f.heap[k]?)->V.cell? (J d 6 Y)=N (Z o b.length q)/\V.cell? (J w.heap.size 4 Y)=N (U name)):=fun V hV=>by
  have y:N d≠(Value.slice o b.length q).ownBlock:=fun e=>by obtain⟨⟨aa,ca,g,W⟩,-⟩:=QL.out;obtain⟨_,_,cs,hc⟩:=af QL.row d e.symm;exact absurd (ah g hc) (by decide)
  have la:N w.heap.size≠(Value.slice o b.length q).ownBlock:=TN.out;exact⟨(cq (a:=(J d 6 Y)) (hV d aq y)).trans e6,(cq (a:=(J w.heap.size 4 Y)) (hV w.heap.size (by omega) la)).trans n4⟩
 have n:=ae (SQ f.drew (fun k t _=>rfl));have UD:Hid (EU w0 S f.drew d nm tg G b (Z o b.length q) made V):=QL.below br.drew lr;have MD:Hid (MI w0 S mb mp (Z a0 S.n0 c0) (Z a1 S.n1 c1) f.drew making making made G V mk md):=M1.below br.drew lr;refine bm (fun V=>V.cell? (J d 6 Y)=N (Z o b.length q)/\V.cell? (J w.heap.size 4 Y)=N (U name)) 14 (by as_aux_lemma=>kernel_rfl) ?_;clear e6 n4
 iterate 10
  first | refine bw 0 (v:=?_) rfl rfl (by as_aux_lemma=>kernel_rfl) (fun _ _ _ h=>h) rfl ?_ n ?_ | refine bw 5 (v:=?_) rfl rfl (by as_aux_lemma=>kernel_rfl) (fun _ _ _ h=>h) rfl ?_ n ?_
  rotate_left
  ·(intro wz x;obtain⟨s0,s1⟩:=x;go_simp)
   (try with_reducible rfl)
  (try simp only[Act.put,nzL])
 refine ar (i:=10) rfl (by as_aux_lemma=>kernel_rfl) (fun K j=>?_);go_simp;have AB:=ae ((eI f.heap.size f.drew).alloc lr (T #[U name,QA D,QA hb,Q I 0,.pointer Y] 212));have QJ:=ae (UD.below AB lr);have MA:=ae (MD.below AB lr);refine j _ _ (fun _=>SQ _ (fun k t _=>AB.block k t)) ?_;clear j K
 (try simp only[Act.put,nzL])
 refine ar (i:=11) rfl (by as_aux_lemma=>kernel_rfl) (fun K j=>?_);refine bA rfl (.tmp 23) (.tmp 29) 125 rfl w0.heap.size 212 i1 (QE #[U ⟨#[]⟩,QA D,QA D,Q I 0,.pointer Y]) 5 40 Tryz.underlying125 hi n6 ph sm rfl (by decide) (Z o b.length q) b.length (eX G b) (by simp[Act.eval]) QJ.row (J f.heap.size 0 Y) 1 1 [U name,QA D,QA hb,Q I 0,.pointer Y] (by simp[Act.eval]) rfl (vo f.drew _ _ _ _ _ _) (by simp[Value.oneCell']) (by unfold maxLen;omega) (by omega) MA.lt ?_;intro v' B A u fd;have O3:=ae A;have P:=ae u;have ex:=ae fd;have S3:=ae (SQ B (fun k t y=>(u.block k (ll t (by simp<;>omega)) y).trans (AB.block k t)));obtain⟨r,s,rfl⟩:=bX A;clear A u fd;refine j _ _ (fun _=>S3) ?_;clear j K n
 (try simp only[Act.put,nzL])
 iterate 2
  refine df 12 rfl rfl (by as_aux_lemma=>kernel_rfl) (fun K j=>?_);go_simp;refine j _ _ (fun _=>S3) ?_;clear j K
  (try simp only[Act.put,nzL])
 have M4:=ae (MA.tied QJ P (v':=Z r (b.length+1) s));have U4:=ae (QJ.tied (l:=⟨name,D,hb⟩) (fun h=>by cases h) P.out O3.out ex.out MA.vlt);have s6:=S3.1;have ld:B.frozen? (J d 6 Y)=D:=by
  obtain⟨⟨aa,ca,g,W⟩,-⟩:=QJ.out;have y:N d≠(Value.slice o b.length q).ownBlock:=fun e=>by obtain⟨_,_,cs,hc⟩:=af QJ.row d e.symm;exact absurd (ah g hc) (by decide)
  exact(DN (a:=(J d 6 Y)) (P.block d (ai g) y)).trans (g.facts.2.2.2.2.2.2.2.2.2 6)
 have n8:f.heap.size<=B.heap.size:=j5 (by simp<;>omega) P.size;have hel3:d<B.heap.size:=ll aq n8;refine ar (i:=14) rfl (by as_aux_lemma=>kernel_rfl) (fun K j=>?_);go_simp;refine j _ _ (fun h=>absurd rfl h) ?_;clear j K s6 ld
 (try simp only[Act.put,nzL])
 refine bJ (by as_aux_lemma=>kernel_rfl) ?_ _;have RB:Hid ((B.setCell (J d 6 Y) (Z r (b.length+1) s)).heap[w.heap.size+1]?=N (T #[QA D,Q I 0,U ⟨#[]⟩] 66 (0,0))):=(qh _ _ _ _ (show w.heap.size+1≠d by omega)).trans ((P.block _ (ll (show w.heap.size+1<f.heap.size by omega) (by simp<;>omega)) n7).trans ((AB.block _ (by omega)).trans n9));have R4:Hid (RepSt w0 S mb mp (Z a0 S.n0 c0) (Z a1 S.n1 c1) w (B.setCell (J d 6 Y) (Z r (b.length+1) s)) making made G V mk md d tg nm (b++[⟨name,D,hb⟩]) (Z o b.length q) (Z r (b.length+1) s)):=by
  refine⟨M4.1,U4,?_,fun k t=>?_⟩
  ·exact((KW.to (KX.of_below (X:=XN) (⟨AB.os,AB.tape,AB.output,AB.size,AB.block⟩:Below f.heap.size f _) lr (by omega))).weak).trans M4.2 (fun _ _ h=>h)
  ·rcases ex.out with e | e
   ·exact .inl (by rw[<-e];exact t)
   ·rw[e] at t
    cases t
    exact .inr (j5 (show w.heap.size<=f.heap.size by omega) (by simp<;>omega))
 generalize B.setCell (J d 6 Y) (Z r (b.length+1) s)=W4 at RB R4 ⊢;obtain⟨rl,r0,r1,r2,rf⟩:=cV RB;have rf0:=rf 0;have rf1:=rf 1;have rf2:=rf 2;clear rf M4 U4;go_wp2_with fail;refine bp (v:=QE #[QA hb,Q I 0,U ⟨#[]⟩]) (by simp[results,Tryz.results282,go_sem,r0,r1,r2]) rfl ⟨rfl,Z r (b.length+1) s,?_⟩;have X0:=R4.set RB.out (by decide) QP (AS _) 0 (QA hb);have X1:=X0.1.set X0.2 (by decide) QP (AS _) 1 (Q I 0);have X2:=X1.1.set X1.2 (by decide) QP (AS _) 2 (U ⟨#[]⟩);exact X2.1
def vr (w0:E)(S:Spc)(mb mp:Nat)(s0 s1:QB)(making:List ByteArray)(made:List Ent)(G:ByteArray->Nat)(V:ByteArray->QB)(w:E)(j tg:Nat)(nm name:ByteArray)(i:List Lk)(v:QB)(e:Ending)(w':E):Out Ent->Prop
 | .inl (made',x)=>e=QD (QE #[QA (decide (¬ x.kind=2)),Q I x.code,U x.text])/\∃ h g f b k,RepSt w0 S mb mp s0 s1 w w' making made' h g f b j tg nm (i++[⟨name,QC,D⟩]) v k/\Ext w.heap.size made made' G h V g
 | .inr (.inl c)=>∃ v,e=.panicked [{ v:=.iface 269 (QE #[v]),recovered:=D }]/\w'.ownsRow w0.heap.size 9 1 v c.length (bq c)/\Below w0.heap.size w w'
 | .inr (.inr d)=>e=.panicked [{ v:=.iface 271 (QE #[U d]),recovered:=D }]/\Below w0.heap.size w w'
theorem yV (C:Ctx w0 S a0 c0 a1 c1)(n:Nat)(HL:ji w0 S mb mp (Z a0 S.n0 c0) (Z a1 S.n1 c1) n)(w:E)(f tg:Nat)(nm:ByteArray)(b:List Lk)(v:QB)(QK:Turn)(qr:making.length+n=60)(h:MI w0 S mb mp (Z a0 S.n0 c0) (Z a1 S.n1 c1) w making making made G V mk md)(hp:PG S making made)(bt:ed S making made 1)(QM:EU w0 S w f nm tg G b v made V)(hls:b.length<=200)(QG:QK.ask=QC)(hn:au QK.name=QC):Calls Tryz.prog 282 #[.pointer (N (J mb 0 Y)),.pointer (N (J f 0 Y)),QK.v] w fun e w'=>vr w0 S mb mp (Z a0 S.n0 c0) (Z a1 S.n1 c1) making made G V w f tg nm QK.name b v e w' (aL S n making made QK.name):=by
 obtain⟨i1,hi,Bk,At,DE⟩:=oN vm;obtain⟨p,r,rfl⟩:=bX QM.row;obtain⟨over,code,text,ask,name,steps⟩:=QK;simp only at QG hn;subst QG;obtain⟨QJ,Fj,sm,DQ,kr,kt⟩:=vq w (QA over) (Q I code) (U text) (QA QC) (U name) (Q I steps);have M0:=ae (h.below QJ lr);have U0:=ae (QM.below QJ lr);have CC:=ae C;have Fk:=ae HL;have PP:=ae hp;have z:w0.heap.size<=w.heap.size:=h.lt;have heb0:f<w.heap.size:=by obtain⟨⟨aa,ca,g,ha⟩,-⟩:=QM;exact ai g
 have Fd:Hid (N (w.heap.size+1)≠(Value.slice p b.length r).ownBlock):=fun e=>by have:=(af QM.row _ e.symm).2.1;omega
 have TN:Hid (N w.heap.size≠(Value.slice p b.length r).ownBlock):=fun e=>by have:=(af QM.row _ e.symm).2.1;omega
 clear h QM C HL hp;show Calls Tryz.prog 282 #[.pointer (N (J mb 0 Y)),.pointer (N (J f 0 Y)),QE #[QA over,Q I code,U text,QA QC,U name,Q I steps]] w _;obtain⟨R,hR⟩:∃ R,R=aL S n making made name:=⟨_,rfl⟩
 have HR:=ae hR;simp only;rw[<-hR];clear hR;go_enter Tryz.func282,Tryz.ntmps282;go_wp2_with fail;clear Fj sm;generalize (w.alloc (T #[QA over,Q I code,U text,QA QC,U name,Q I steps] 61)).alloc (T #[QA D,Q I 0,U ⟨#[]⟩] 66)=W0 at QJ DQ kr kt M0 U0 ⊢;refine(Fk making made G V mk md W0 name qr M0 PP bt hn).mono ?_;intro e m s;rw[<-HR.out] at s;rcases R with ⟨o,x⟩ | c | d
 ·obtain⟨QP,V',P,O,rfl,hM,hE,j⟩:=s
  obtain⟨Fi,-,hx,QH⟩:=cP CC.ok n making made name o x PP hn HR.symm;have M1:=ae hM;have W:=ae (U0.step j hE);have E1:=ae (hE.mono (show w.heap.size<=W0.heap.size by omega));have KW:=ae ((KX.of_below (X:=XN) QJ lr z).to j);have HX:=ae hx;have ex:=ae QH;have hz1:w.heap.size+2<=m.heap.size:=by have:=j.below.size;omega
  have Fh:Hid (m.heap[w.heap.size+1]?=N (T #[QA D,Q I 0,U ⟨#[]⟩] 66 (0,0))):=(j.blk _ _ _ _ kr (by decide) (by decide) (by decide) fun h=>h).trans kr;have ld:=(j.blk _ _ _ _ kt (by decide) (by decide) (by decide) fun h=>h).trans kt;have n4:m.cell? (J w.heap.size 4 Y)=N (U name):=by simp[World.cell?,ld]
  rw[QH];clear hM hE j hx QH Fi ld M0 U0 kr kt;go_wp2_with fail;obtain⟨⟨aa,ca,g,ha⟩,-⟩:=W.out;obtain⟨la,-,-,-,-,-,-,e6,-,ef⟩:=g.facts;have ef6:=ef 6;have hebB:w0.heap.size<=f:=W.ge;clear g ha ef;have SQ:Hid (∀ V:E,(∀ k,k<m.heap.size->N k≠(Value.slice p b.length r).ownBlock->V.heap[k]?=m.heap[k]?)->V.cell? (J f 6 Y)=N (Z p b.length r)/\V.cell? (J w.heap.size 4 Y)=N (U name)):=fun V hV=>by
   have H:N f≠(Value.slice p b.length r).ownBlock:=fun e=>by obtain⟨⟨aa,ca,g,ha⟩,-⟩:=W.out;obtain⟨_,_,cs,hc⟩:=af W.row f e.symm;exact absurd (ah g hc) (by decide)
   have ph:N w.heap.size≠(Value.slice p b.length r).ownBlock:=TN.out;exact⟨(cq (a:=(J f 6 Y)) (hV f la H)).trans e6,(cq (a:=(J w.heap.size 4 Y)) (hV w.heap.size (by omega) ph)).trans n4⟩
  have HS:=ae (SQ m.drew (fun k B _=>rfl));have UD:Hid (EU w0 S m.drew f nm tg QP b (Z p b.length r) o V'):=W.below br.drew lr;have MD:Hid (MI w0 S mb mp (Z a0 S.n0 c0) (Z a1 S.n1 c1) m.drew making making o QP V' P O):=M1.below br.drew lr;refine bm (fun V=>V.cell? (J f 6 Y)=N (Z p b.length r)/\V.cell? (J w.heap.size 4 Y)=N (U name)) 14 (by as_aux_lemma=>kernel_rfl) ?_;clear e6 n4
  iterate 10
   first | refine bw 0 (v:=?_) rfl rfl (by as_aux_lemma=>kernel_rfl) (fun _ _ _ h=>h) rfl ?_ HS ?_ | refine bw 5 (v:=?_) rfl rfl (by as_aux_lemma=>kernel_rfl) (fun _ _ _ h=>h) rfl ?_ HS ?_
   rotate_left
   ·(intro wz ro;obtain⟨s0,s1⟩:=ro;go_simp)
    (try with_reducible rfl)
   (try simp only[Act.put,nzL])
  refine ar (i:=10) rfl (by as_aux_lemma=>kernel_rfl) (fun K j=>?_);go_simp;have AB:=ae ((eI m.heap.size m.drew).alloc lr (T #[U name,QA QC,QA D,Q I 0,.pointer (N (J (QP name) 0 Y))] 212));have UA:=ae (UD.below AB lr);have MA:=ae (MD.below AB lr);refine j _ _ (fun _=>SQ _ (fun k B _=>AB.block k B)) ?_;clear j K
  (try simp only[Act.put,nzL])
  refine ar (i:=11) rfl (by as_aux_lemma=>kernel_rfl) (fun K j=>?_);refine bA rfl (.tmp 43) (.tmp 49) 125 rfl w0.heap.size 212 i1 (QE #[U ⟨#[]⟩,QA D,QA D,Q I 0,.pointer Y]) 5 40 Tryz.underlying125 hi Bk At DE rfl (by decide) (Z p b.length r) b.length (eX QP b) (by simp[Act.eval]) UA.row (J m.heap.size 0 Y) 1 1 [U name,QA QC,QA D,Q I 0,.pointer (N (J (QP name) 0 Y))] (by simp[Act.eval]) rfl (vo m.drew _ _ _ _ _ _) (by simp[Value.oneCell']) (by unfold maxLen;omega) (by omega) MA.lt ?_;intro v' QL M QQ fd;have O3:=ae M;have G3:=ae QQ;have n6:=ae fd;have S3:=ae (SQ QL (fun k B H=>(QQ.block k (ll B (by simp<;>omega)) H).trans (AB.block k B)));obtain⟨t,y,rfl⟩:=bX M;clear M QQ fd;refine j _ _ (fun _=>S3) ?_;clear j K HS
  (try simp only[Act.put,nzL])
  iterate 2
   refine df 12 rfl rfl (by as_aux_lemma=>kernel_rfl) (fun K j=>?_);go_simp;refine j _ _ (fun _=>S3) ?_;clear j K
   (try simp only[Act.put,nzL])
  have M4:=ae (MA.tied UA G3 (v':=Z t (b.length+1) y));have U4:=ae (UA.tied (l:=⟨name,QC,D⟩) (fun _=>⟨x,HX,ex⟩) G3 O3 n6 MA.vlt);have s6:=S3.1;have th:QL.frozen? (J f 6 Y)=D:=by
   obtain⟨⟨aa,ca,g,ha⟩,-⟩:=UA.out;have H:N f≠(Value.slice p b.length r).ownBlock:=fun e=>by obtain⟨_,_,cs,hc⟩:=af UA.row f e.symm;exact absurd (ah g hc) (by decide)
   exact(DN (a:=(J f 6 Y)) (G3.block f (ai g) H)).trans (g.facts.2.2.2.2.2.2.2.2.2 6)
  have DA:m.heap.size<=QL.heap.size:=j5 (by simp<;>omega) G3.size;have hel3:f<QL.heap.size:=ll la DA;refine ar (i:=14) rfl (by as_aux_lemma=>kernel_rfl) (fun K j=>?_);go_simp;refine j _ _ (fun h=>absurd rfl h) ?_;clear j K s6 th
  (try simp only[Act.put,nzL])
  refine bJ (by as_aux_lemma=>kernel_rfl) ?_ _;have RB:Hid ((QL.setCell (J f 6 Y) (Z t (b.length+1) y)).heap[w.heap.size+1]?=N (T #[QA D,Q I 0,U ⟨#[]⟩] 66 (0,0))):=(qh _ _ _ _ (show w.heap.size+1≠f by omega)).trans ((G3.block _ (ll (show w.heap.size+1<m.heap.size by omega) (by simp<;>omega)) Fd).trans ((AB.block _ (by omega)).trans Fh));have L:Hid (RepSt w0 S mb mp (Z a0 S.n0 c0) (Z a1 S.n1 c1) w (QL.setCell (J f 6 Y) (Z t (b.length+1) y)) making o QP V' P O f tg nm (b++[⟨name,QC,D⟩]) (Z p b.length r) (Z t (b.length+1) y)):=by
   refine⟨M4.1,U4,?_,fun k B=>?_⟩
   ·exact((KW.to (KX.of_below (X:=XN) (⟨AB.os,AB.tape,AB.output,AB.size,AB.block⟩:Below m.heap.size m _) lr (by omega))).weak).trans M4.2 (fun _ _ h=>h)
   ·rcases n6.out with e | e
    ·exact .inl (by rw[<-e];exact B)
    ·rw[e] at B
     cases B
     exact .inr (j5 (show w.heap.size<=m.heap.size by omega) (by simp<;>omega))
  generalize QL.setCell (J f 6 Y) (Z t (b.length+1) y)=W4 at RB L ⊢;obtain⟨rl,r0,r1,r2,A⟩:=cV RB;have n8:=A 0;have mv:=A 1;have n7:=A 2;clear A M4 U4;have EX:=ae (L.1.ents x HX);obtain⟨act,g,QN⟩:=EX.blk;rw[ex.out] at g;obtain⟨q,q0,q1,q2,q3,q4,q5,-,-,-⟩:=g.facts;obtain⟨aa,na,ca,rfl⟩:∃ a n c,act=Z a n c:=by
   unfold mF at QN;split at QN
   ·obtain⟨_,a,c,e,_⟩:=QN;exact⟨a,_,c,e⟩
   ·exact⟨_,_,_,QN⟩
  clear g QN;go_wp2_with fail;refine(pF ⟨name,x.kind,x.code,x.text,na,fun _=>⟨0,⟨#[]⟩,0⟩,0,fun _=>⟨⟨#[]⟩,D,D,0⟩⟩ aa ca Y 0 W4).mono ?_;rintro e w5 ⟨rfl,QO⟩;have n9:Hid (w5.heap[w.heap.size+1]?=N (T #[QA D,Q I 0,U ⟨#[]⟩] 66 (0,0))):=(QO.block _ rl).trans RB;have R5:Hid (RepSt w0 S mb mp (Z a0 S.n0 c0) (Z a1 S.n1 c1) w w5 making o QP V' P O f tg nm (b++[⟨name,QC,D⟩]) (Z p b.length r) (Z t (b.length+1) y)):=⟨L.1.below QO lr,L.2.1.below QO lr,L.2.2.1.to (KX.of_below QO lr L.1.lt),L.2.2.2⟩
  clear r0 r1 r2 n8 mv n7 q0 q1 q2 q3 q4 q5 QO;obtain⟨rl5,r0,r1,r2,A⟩:=cV n9;have n8:=A 0;have mv:=A 1;have n7:=A 2;clear A;obtain⟨kb,aq⟩:∃ kb,kb=decide (¬ x.kind=2):=⟨_,rfl⟩
  have ur:=ae aq;simp only;rw[<-aq];clear aq;go_wp2_with fail;refine bp (v:=QE #[QA kb,Q I x.code,U x.text]) (by simp[results,Tryz.results282,go_sem,r0,r1,r2]) rfl ?_;show vr w0 S mb mp (Z a0 S.n0 c0) (Z a1 S.n1 c1) making made G V w f tg nm name b (Z p b.length r) _ _ (.inl (o,x));refine⟨by rw[ur.out],QP,V',P,O,Z t (b.length+1) y,?_,E1⟩;have X0:=R5.set n9.out (by decide) z (AS _) 0 (QA kb);have X1:=X0.1.set X0.2 (by decide) z (AS _) 1 (Q I x.code);have X2:=X1.1.set X1.2 (by decide) z (AS _) 2 (U x.text);exact X2.1
 ·obtain⟨u,rfl,h1,h2⟩:=s
  go_wp2_with fail;exact⟨rfl,u,rfl,h1,(QJ.mono z).trans h2⟩
 ·obtain⟨rfl,h2⟩:=s
  go_wp2_with fail;exact⟨rfl,rfl,(QJ.mono z).trans h2⟩
end
end Go.Proofs.YtkdimgejdocbbaaGreatDoor.Vp
namespace Go.Proofs.YtkdimgejdocbbaaGreatDoor.Vp
open RowKit
theorem Bj (g f cnt d:Nat)(w:E):Calls Tryz.prog 228 #[QE #[Z (N (J g f Y)) cnt d]] w fun e w'=>∃ b,e=QD (.func (.func 253) #[] #[.pointer (N (J b 0 Y))])/\w.heap.size<=b/\MAt w' b (Z (N (J g f Y)) cnt d) m0/\(∃ h,w'.heap[b]?=N (T h 142 (0,0)))/\Below w.heap.size w w':=by
 have k:=ae ((Qs w).alloc lr (T #[Z (N (J g f Y)) cnt d] 31));have k0:(w.alloc (T #[Z (N (J g f Y)) cnt d] 31)).cell? (J w.heap.size 0 Y)=N (Z (N (J g f Y)) cnt d):=by simp
 have z0:(w.alloc (T #[Z (N (J g f Y)) cnt d] 31)).heap.size=w.heap.size+1:=by simp
 have j:=ae (sE (w.alloc (T #[Z (N (J g f Y)) cnt d] 31)) (N (J g f Y)) cnt d);have i:=ae (by have:=j.out;rw[z0] at this;exact this);have l:=ae (k.alloc k.size (T (eU (Z (N (J g f Y)) cnt d)) 142));have m:Hid (∃ h,((w.alloc (T #[Z (N (J g f Y)) cnt d] 31)).alloc (T (eU (Z (N (J g f Y)) cnt d)) 142)).heap[w.heap.size+1]?=N (T h 142 (0,0))):=by have h2:=eL (w.alloc (T #[Z (N (J g f Y)) cnt d] 31)) (T (eU (Z (N (J g f Y)) cnt d)) 142);rw[z0] at h2;exact⟨_,h2⟩
 go_enter Tryz.func228,Tryz.ntmps228
 go_wp2_with (first
  | (refine sF rfl 142 #[(1,.tmp 5)] rfl [(1,Z (N (J g f Y)) cnt d)] (eU (Z (N (J g f Y)) cnt d)) (by simp[Act.eval]) (ym _ _ _) ?_)
  | (refine wpList_store_row rfl 142 (.tmp 3) (.tmp 6) rfl (w.heap.size+1) (eU (Z (N (J g f Y)) cnt d)) rfl rfl _ _ (by rw[<-z0];exact heap_alloc_last _ _) (infoM.trans (by rw[iB])) (by rw[iB];rfl) (pT _ _ _) ?_;rw[<-z0,World.setRow_alloc_new])
  | fail)
 go_ret;exact⟨_,rfl,by first | (simp;done) | (simp;omega),i,m,l⟩
section
variable {w0 w w':E}{S:Spc}{mb mp:Nat}{s0 s1 mk md:QB}{cnt nk np:Nat}{F:List UInt8->Option QB}{ks ps:List QB}{made:List Ent}{G:ByteArray->Nat}{V:ByteArray->QB}
theorem MIg.only {b:Nat}{g:Array QB}{t:QF}{fz:Nat × Nat}(h:MIg w0 S mb mp s0 s1 w cnt F nk ks np ps made G V mk md)(hb:w.heap[b]?=N (T g t fz))(r:tu t)(z:w0.heap.size<=b)(m:Only b w w'):MIg w0 S mb mp s0 s1 w' cnt F nk ks np ps made G V mk md:=by
 have A:KX w0.heap.size (fun i=>i=b) w w':=KX.of_only m rfl h.lt z;obtain⟨q,s,u,B,y⟩:=r;refine h.kx A (fun i o hi l=>m.block i (ai hi) l) (fun e=>?_) (fun e=>?_) (fun k d e=>?_) (fun k d e=>?_) (fun x p=>⟨fun e=>?_,fun k d e=>?_⟩)
 ·subst e;exact u (ah hb h.box)
 ·obtain⟨es,c,n⟩:=h.map.isMap
  rw[e,hb] at n;cases n
 ·subst e;obtain⟨_,_,g,f⟩:=af h.rmk _ d;exact q (ah hb f)
 ·subst e;obtain⟨_,_,g,f⟩:=af h.rmd _ d;exact s (ah hb f)
 ·obtain⟨act,j,_⟩:=(h.ents x p).blk
  rw[e] at j;exact B (ah hb j)
 ·subst e;obtain⟨_,_,g,f⟩:=af (h.ents x p).row _ d;exact y (ah hb f)
theorem EU.only {b i tg:Nat}{nm:ByteArray}{g:List Lk}{v:QB}{f:Array QB}{t:QF}{fz:Nat × Nat}(h:EU w0 S w i nm tg G g v made V)(hb:w.heap[b]?=N (T f t fz))(r:tu t)(l:Only b w w'):EU w0 S w' i nm tg G g v made V:=by
 obtain⟨⟨a,n,d,x⟩,o,j,s,m,has⟩:=h;obtain⟨t1,t2,t3,z,u⟩:=r;refine⟨⟨a,n,(l.block _ (ai d) fun e=>?_).trans d,x⟩,o,bI j fun k y=>?_,s,m,has⟩
 ·subst e;exact z (ah hb d)
 ·obtain⟨_,q,f,p⟩:=af j _ y
  exact l.block k q fun e=>u (ah hb (e ▸ p))
theorem MIg.entOnly {f:Nat}{g:Array QB}{fz:Nat × Nat}(h:MIg w0 S mb mp s0 s1 w cnt F nk ks np ps made G V mk md)(hb:w.heap[f]?=N (T g 127 fz))(p:∀ x∈made,G x.name≠f)(q:w0.heap.size<=f)(l:Only f w w'):MIg w0 S mb mp s0 s1 w' cnt F nk ks np ps made G V mk md:=by
 have r:KX w0.heap.size (fun i=>i=f) w w':=KX.of_only l rfl h.lt q;refine h.kx r (fun i o hi j=>l.block i (ai hi) j) (fun e=>?_) (fun e=>?_) (fun k b e=>?_) (fun k b e=>?_) (fun x n=>⟨fun e=>p x n e,fun k b e=>?_⟩)
 ·subst e;exact absurd (ah hb h.box) (by decide)
 ·obtain⟨es,c,m⟩:=h.map.isMap
  rw[e,hb] at m;cases m
 ·subst e;obtain⟨_,_,g,d⟩:=af h.rmk _ b;exact absurd (ah hb d) (by decide)
 ·subst e;obtain⟨_,_,g,d⟩:=af h.rmd _ b;exact absurd (ah hb d) (by decide)
 ·subst e;obtain⟨_,_,g,d⟩:=af (h.ents x n).row _ b;exact absurd (ah hb d) (by decide)
end
theorem MAt.blk {w w':E}{b:Nat}{d:QB}{m:Mst}(h:MAt w b d m)(hb:w'.heap[b]?=w.heap[b]?)(g:w.heap.size<=w'.heap.size):MAt w' b d m :=
 ⟨ll h.1 g,fun j f=>⟨(cq (a:=(J b j Y)) hb).trans (h.2 j f).1,(DN (a:=(J b j Y)) hb).trans (h.2 j f).2⟩⟩
def TB (w:E)(g:Nat)(t:Turn):Prop:=w.heap[g]?=N (T #[QA t.over,Q I t.code,U t.text,QA t.ask,U t.name,Q I t.steps] 61 (0,0))
theorem TB.facts {w:E}{g:Nat}{t:Turn}(h:TB w g t):g<w.heap.size/\w.cell? (J g 0 Y)=N (QA t.over)/\w.cell? (J g 1 Y)=N (Q I t.code)/\w.cell? (J g 2 Y)=N (U t.text)/\w.cell? (J g 3 Y)=N (QA t.ask)/\w.cell? (J g 4 Y)=N (U t.name)/\w.cell? (J g 5 Y)=N (Q I t.steps)/\∀ j,w.frozen? (J g j Y)=D:=by unfold TB at h;refine⟨ai h,?_,?_,?_,?_,?_,?_,fun j=>?_⟩;all_goals simp[World.cell?,World.frozen?,h]
theorem TB.put {w:E}{g:Nat}{u:Turn}(h:TB w g u)(t:Turn):TB (eF w g t) g t :=
 aw (aw (aw (aw (aw (aw h (j:=0) _) (j:=1) _) (j:=2) _) (j:=3) _) (j:=4) _) (j:=5) _
theorem TB.only {w w':E}{g b:Nat}{t:Turn}(h:TB w g t)(d:Only b w w')(f:g≠b):TB w' g t:=(d.block g (ai h) f).trans h
end Go.Proofs.YtkdimgejdocbbaaGreatDoor.Vp
namespace Go.Proofs.YtkdimgejdocbbaaGreatDoor.Vp
open RowKit Ca
def ContOk (S:Spc)(tg:Nat)(b:List aA)(H:Halt):Prop:=∀ (y:Nat->aA) (n:Nat),b.length<=n->(∀ i,i<b.length->y i=yL b i)->dM (S.f1 tg).act (S.f1 tg).actN y n H=bV (S.f1 tg).act (S.f1 tg).actN y n 2001 0 0 0 []
theorem ContOk.turn {S:Spc}{tg:Nat}{b:List aA}{H:Halt}{m:Mst}(h:ContOk S tg b H)(d:eE m H)(hL:fR b.length H):m.t=bF S tg b:=by rw[<-mN (f:=(S.f1 tg).act) (cnt:=(S.f1 tg).actN) (y:=yL b) d hL];exact h (yL b) b.length lr fun _ _=>rfl
theorem ContOk.step {S:Spc}{tg:Nat}{b:List aA}{a:Bool}{nm:ByteArray}{s:List ByteArray}{p st:Nat}{f:Halt}{r:aA}(h:ContOk S tg b (.inr (a,nm,s,p,st,(b.length+1))))(j:∀ y n,b.length+1<=n->y (b.length+1 - 1)=r->dM (S.f1 tg).act (S.f1 tg).actN y n (.inr (a,nm,s,p,st,(b.length+1)))=dM (S.f1 tg).act (S.f1 tg).actN y n f):ContOk S tg (b++[r]) f:=by intro y n g d;rw[cM,p8] at g d;rw[<-j y n g (by rw[JE,d _ (lj _),Cm])];exact h y n (by omega) fun i hi=>by rw[d i (by omega),yw b r hi]
structure RI (w0:E)(S:Spc)(mb mp:Nat)(s0 s1:QB)(w:E)(n:Nat)(making:List ByteArray)(eb tg:Nat)(nm:ByteArray)(b:Nat)(cv:QB)(tb:Nat)(made0:List Ent)(G0:ByteArray->Nat)(V0:ByteArray->QB)(R0:Out (Turn × List Lk))(wr:E)(ys:List aA)(ls:List Lk)(made:List Ent)(G:ByteArray->Nat)(V:ByteArray->QB)(mk md v:QB)(m:Mst)(H:Halt):Prop where
 mi:MI w0 S mb mp s0 s1 wr making making made G V mk md
 pg:PG S making made
 rg:RG S made ys ls
 room:ed S making made (201 - ys.length)
 eu:EU w0 S wr eb nm tg G ls v made V
 ma:MAt wr b cv m
 ty:∃ cs,wr.heap[b]?=N (T cs 142 (0,0))
 tb:TB wr tb m.t
 st:eE m H
 lk:fR ys.length H
 co:ContOk S tg ys H
 run:bO S (aL S n making) tg (201 - ys.length) made ys ls=R0
 le:ys.length<=200
 ext:Ext w.heap.size made0 made G0 G V0 V
 kx:KX w0.heap.size (fun i=>i=eb) w wr
 vn:∀ k,v.ownBlock=N k->w.heap.size<=k
def Dz (w0:E)(S:Spc)(mb mp:Nat)(s0 s1:QB)(making:List ByteArray)(made:List Ent)(G:ByteArray->Nat)(V:ByteArray->QB)(w:E)(f tg:Nat)(nm:ByteArray)(e:Ending)(w':E):Out (Turn × List Lk)->Prop
 | .inl (made',x)=>e=QD (.tuple #[])/\∃ b j h g l,MI w0 S mb mp s0 s1 w' making making made' b j h g/\EntAt w0 S b w' f l ⟨nm,3,x.1.code,x.1.text,tg,x.2⟩/\(∀ y∈made',b y.name≠f)/\(∀ k,l.ownBlock=N k->w.heap.size<=k)/\Ext w.heap.size made made' G b V j/\KX w0.heap.size (fun i=>i=f) w w'
 | .inr (.inl c)=>∃ v,e=.panicked [{ v:=.iface 269 (QE #[v]),recovered:=D }]/\w'.ownsRow w0.heap.size 9 1 v c.length (bq c)/\Below w0.heap.size w w'
 | .inr (.inr d)=>e=.panicked [{ v:=.iface 271 (QE #[U d]),recovered:=D }]/\Below w0.heap.size w w'
section
variable {w0:E}{S:Spc}{a0 a1:Option Addr}{c0 c1 mb mp:Nat}{making:List ByteArray}
theorem Bl (C:Ctx w0 S a0 c0 a1 c1)(n:Nat)(HL:ji w0 S mb mp (Z a0 S.n0 c0) (Z a1 S.n1 c1) n)(o:List Ent)(G0:ByteArray->Nat)(V0:ByteArray->QB)(Fq FC:QB)(w:E)(r tg:Nat)(nm:ByteArray)(Gp:making.length+n=60)(h:MI w0 S mb mp (Z a0 S.n0 c0) (Z a1 S.n1 c1) w making making o G0 V0 Fq FC)(hp:PG S making o)(Fi:ed S making o 201)(F8:tg<S.n1)(hu:EU w0 S w r nm tg G0 [] (Z Y 0 0) o V0):Calls Tryz.prog 263 #[.pointer (N (J mb 0 Y)),.pointer (N (J r 0 Y))] w fun e w'=>Dz w0 S mb mp (Z a0 S.n0 c0) (Z a1 S.n1 c1) making o G0 V0 w r tg nm e w' (bO S (aL S n making) tg 201 o [] []):=by
 obtain⟨FJ,hc1,Gb⟩:=bY (C.ok.act tg F8);obtain⟨⟨av,QJ,aq,bt⟩,DQ,Fl,n9,-,-⟩:=hu;obtain⟨QG,QH,rfl,Fh⟩:∃ QG QH,av=N (J QG QH Y)/\RowIns w0 QG QH (S.f1 tg).actN (S.f1 tg).act:=by
  rcases bt with h | ⟨b,off,e,hr⟩
  ·omega
  ·exact⟨b,off,e,hr⟩
 obtain⟨hel,-,-,-,-,e4,-,-,-,-⟩:=aq.facts;have HU:Hid (EU w0 S w r nm tg G0 [] (Z Y 0 0) o V0):=⟨⟨_,_,aq,bt⟩,DQ,Fl,n9,fun _ _ k hk=>(by cases hk),fun _ hl=>absurd hl nj⟩
 have HM:=ae h;have HP:=ae hp;have HRI:=ae Fh;have CC:=ae C;have Gx:=ae HL;have QL:w0.heap.size<=w.heap.size:=h.lt;have At:Hid (∀ W b,Below w0.heap.size w0 W->w0.heap.size<=b->Env W b QG QH (S.f1 tg).actN (S.f1 tg).act):=fun W b hW hb=>⟨Fh.below hW lr,C.tab.below hW C.tab.1,C.pow.below hW lr,ll Fh.1 hb,ll C.tab.1 hb,ll C.pow.lt hb⟩
 obtain⟨R0,FV⟩:∃ R0,R0=bO S (aL S n making) tg 201 o [] []:=⟨_,rfl⟩
 rw[<-FV];have Gz:=ae FV;clear h hp Fh C HL aq bt Fl n9 FV;obtain⟨H0,FO⟩:=pS (S.f1 tg).act (S.f1 tg).actN 2001 0 0 0 [] (by omega) (by omega);have Gl:Hid (Goes (S.f1 tg).act (S.f1 tg).actN m0 H0):=.inl ⟨rfl,0,0,0,[],⟨trivial,rfl,by simp,rfl,rfl,rfl,fun x hx=>absurd hx nj,by omega,by omega,by omega⟩,FO⟩;have Fr:=ae (fun y n=>nC (S.f1 tg).act (S.f1 tg).actN y n 2001 0 0 0 [] H0 (by omega) rfl FO);clear FO;go_enter Tryz.func263,Tryz.ntmps263;go_wp2_with fail;refine(Bj QG QH (S.f1 tg).actN QJ w).mono ?_;rintro e w1 ⟨b,rfl,hb,Gf,FF,Gd⟩;have F4:=ae Gf;have Gi:=ae FF;have B1:=ae Gd;clear Gf FF Gd e4;go_wp2_with fail;refine(oF b QG QH (S.f1 tg).actN QJ (S.f1 tg).act m0 H0 ⟨D,0,⟨#[]⟩⟩ _ F4 (At _ _ (HM.bel.trans (B1.mono QL)) (j5 QL hb)) rfl (by omega) FJ Gl).mono ?_;rintro e w2 ⟨B,rfl,Gm,Ge,qr⟩;have FU:=ae Gm;have Gj:=ae Ge;have O2:=ae qr;have Gc:Hid (∃ QP,w2.heap[b]?=N (T QP 142 (0,0))):=by obtain⟨QP,A⟩:=Gi.out;exact qr.ty QP _ _ A
 have Gu:w1.heap.size<=w2.heap.size:=qr.size;have B2:=ae (B1.trans (qr.below hb B1.size));clear Gm Ge qr;simp only[Turn.v];have A3:=ae ((Qs w2).alloc lr (T #[QA B.t.over,Q I B.t.code,U B.t.text,QA B.t.ask,U B.t.name,Q I B.t.steps] 61));have Fm:Hid (TB (w2.alloc (T #[QA B.t.over,Q I B.t.code,U B.t.text,QA B.t.ask,U B.t.name,Q I B.t.steps] 61)) w2.heap.size B.t):=eL _ _;have th:b<w2.heap.size:=FU.lt;go_wp2;generalize w2.alloc (T #[QA B.t.over,Q I B.t.code,U B.t.text,QA B.t.ask,U B.t.name,Q I B.t.steps] 61)=W3 at A3 Fm ⊢;obtain⟨tb,F3⟩:∃ tb,tb=w2.heap.size:=⟨_,rfl⟩
 rw[<-F3] at Fm ⊢;have FX:w.heap.size<=tb:=by have:=B2.size;omega
 have hbtb:b<tb:=by omega
 have B3:=ae (B2.trans (A3.mono B2.size))
 have F9:Hid (RI w0 S mb mp (Z a0 S.n0 c0) (Z a1 S.n1 c1) w n making r tg nm b (Z (N (J QG QH Y)) (S.f1 tg).actN QJ) tb o G0 V0 R0 W3 [] [] o G0 V0 Fq FC (Z Y 0 0) B H0) :=
  ⟨HM.below B3 lr,HP,gn S o,Fi,HU.below B3 lr,FU.below A3 th,(by obtain⟨QP,A⟩:=Gc.out;exact⟨QP,(A3.block b th).trans A⟩),Fm,Gj,(Fr (yL []) 0).2,fun y n _ _=>(Fr y n).1.symm,Gz.symm,CS _,Ext.refl _ _ _ _,KX.of_below B3 lr QL,fun k hk=>(by cases hk)⟩
 clear F3 Fm A3 B2 F4 Gi FU Gc Gj O2 Gl Fr B1 HM HU Fi HP B3 Gu th;go_loopg [] 202 (fun g wr=>∃ p ls made G V mk md v m H,Hid (RI w0 S mb mp (Z a0 S.n0 c0) (Z a1 S.n1 c1) w n making r tg nm b (Z (N (J QG QH Y)) (S.f1 tg).actN QJ) tb o G0 V0 R0 wr p ls made G V mk md v m H)/\201 - p.length<=g);case atStart=>exact⟨[],[],o,G0,V0,Fq,FC,_,B,H0,F9,by simp⟩
 case round =>
  clear F9;obtain⟨p,ls,made,G,V,mk,md,v,m,H,f,hg⟩:=hrel;have HT:=ae (f.co.turn f.st f.lk);obtain⟨tbl,t0,t1,t2,t3,t4,t5,tf⟩:=f.tb.facts;have FY:=tf 0;have FI:=tf 1;have Fy:=tf 2;have FW:=tf 3;have FM:=tf 4;have FG:=tf 5;clear tf;have hbw:w.heap.size<=b:=hb;have Gk:r≠b:=by omega
  have R:r≠tb:=by omega
  cases ho:m.t.over with
  | true =>
   rw[ho] at t0;have GA:Hid (R0=.inl (made,(m.t,ls))):=by show _=_;rw[<-f.run,show 201 - p.length=(200 - p.length)+1 by have:=f.le;omega,bO,<-HT.out,eT ho]
   obtain⟨⟨ax,cx,aq,bt⟩,-⟩:=f.eu;obtain⟨hel2,-,-,e2,e3,-,-,-,-,ef⟩:=aq.facts;have ef2:=ef 2;have ef3:=ef 3;have FD:=ae aq;have Gr:=ae bt;clear aq bt ef;obtain⟨code,fd⟩:∃ code,code=m.t.code:=⟨_,rfl⟩
   obtain⟨text,ex⟩:∃ text,text=m.t.text:=⟨_,rfl⟩
   rw[<-fd] at t1;rw[<-ex] at t2;have HC:=ae fd;have HX:=ae ex;clear fd ex;go_wp2_with fail;clear t0 t3 t4 t5 FY FI Fy FW FM FG;refine wp_region_held_drew (S:=fun V=>V.cell? (J tb 1 Y)=N (Q I code)/\V.cell? (J tb 2 Y)=N (U text)) (by as_aux_lemma=>kernel_rfl) ⟨t1,t2⟩ (fun hS=>?_);have HS:=ae hS;clear hS
   iterate 9
    first | refine bS 0 (v:=?_) rfl rfl (by as_aux_lemma=>kernel_rfl) (fun _ _ _ h=>h) rfl ?_ HS ?_ | refine bS 4 (v:=?_) rfl rfl (by as_aux_lemma=>kernel_rfl) (fun _ _ _ h=>h) rfl ?_ HS ?_
    rotate_left
    ·(intro wz Ft;obtain⟨s0,s1⟩:=Ft;go_simp)
     (try with_reducible rfl)
    (try simp only[Act.put,nzL])
   have S5:Hid ((wr.drew.setCell (J r 2 Y) (Q I code)).cell? (J tb 1 Y)=N (Q I code)/\(wr.drew.setCell (J r 2 Y) (Q I code)).cell? (J tb 2 Y)=N (U text)):=⟨(cell_far _ _ _ _ R).trans HS.1,(cell_far _ _ _ _ R).trans HS.2⟩
   refine bN (i:=9) rfl (by as_aux_lemma=>kernel_rfl) (fun K hK=>?_);go_simp;refine hK _ _ S5 ?_;clear hK K HS
   (try simp only[Act.put,nzL])
   have HS:=S5
   iterate 3
    refine bS 10 (v:=?_) rfl rfl (by as_aux_lemma=>kernel_rfl) (fun _ _ _ h=>h) rfl ?_ HS ?_;rotate_left
    ·(intro wz Ft;obtain⟨s0,s1⟩:=Ft;go_simp)
     (try with_reducible rfl)
    (try simp only[Act.put,nzL])
   have S6:Hid (((wr.drew.setCell (J r 2 Y) (Q I code)).setCell (J r 3 Y) (U text)).cell? (J tb 1 Y)=N (Q I code)/\((wr.drew.setCell (J r 2 Y) (Q I code)).setCell (J r 3 Y) (U text)).cell? (J tb 2 Y)=N (U text)):=⟨(cell_far _ _ _ _ R).trans S5.1,(cell_far _ _ _ _ R).trans S5.2⟩
   refine bN (i:=13) rfl (by as_aux_lemma=>kernel_rfl) (fun K hK=>?_);go_simp;refine hK _ _ S6 ?_;clear hK K
   (try simp only[Act.put,nzL])
   refine wpAnyH_done (by as_aux_lemma=>kernel_rfl) ?_ _;have OE:Hid (Only r wr ((wr.setCell (J r 2 Y) (Q I code)).setCell (J r 3 Y) (U text)).drew):=(bZ (bZ (Only.refl r wr) 2 _) 3 _).drew;have FZ:Hid (EntBlk ((wr.setCell (J r 2 Y) (Q I code)).setCell (J r 3 Y) (U text)).drew r nm 3 code text (Z ax (S.f1 tg).actN cx) v 0):=aw (aw FD (j:=2) _) (j:=3) _;generalize ((wr.setCell (J r 2 Y) (Q I code)).setCell (J r 3 Y) (U text)).drew=W6 at OE FZ ⊢;go_end0;rw[GA.out];refine⟨rfl,G,V,mk,md,v,f.mi.entOnly FD f.eu.free DQ OE,⟨⟨_,by rw[<-HC.out,<-HX.out];exact FZ,by rw[mF,eT rfl];exact⟨F8,_,_,rfl,Gr⟩⟩,DQ,bI f.eu.row fun k hk=>?_⟩,f.eu.free,f.vn,f.ext,f.kx.trans (KX.of_only (X:=fun i=>i=r) OE rfl f.mi.lt DQ) (fun _ _ h=>h)⟩;obtain⟨_,hl,QP,A⟩:=af f.eu.row k hk;exact OE.block k hl fun e=>absurd (ah FD (e ▸ A)) (by decide)
  | false =>
   obtain⟨a,s,s2,pp,st,l,rfl⟩:=jH f.st ho;have el:l=p.length+1:=f.lk;subst el;obtain⟨Fd,ur,Fx,-⟩:=f.st;have hylt:p.length<200:=by have:=ur.lk;omega
   have Gg:=ae Fd;rw[Fd] at t0 t1 t2 t3 t4 t5;simp only at t0 t1 t2 t3 t4 t5;have HSM:=ae ur;have DE:=ae Fx;have F7:Hid (bF S tg p=⟨D,0,⟨#[]⟩,a,s,st⟩):=HT.symm.trans Fd;have Gh:ls.length<=200:=by have:=f.rg.len;omega
   clear Fd ur Fx;have Fj:Hid (∀ k,v.ownBlock=N k->k≠b/\k≠tb):=fun k hk=>by obtain⟨_,_,QP,A⟩:=af f.eu.row k hk;obtain⟨cs2,Gb⟩:=f.ty;exact⟨fun e=>absurd (ah Gb (e ▸ A)) (by decide),fun e=>absurd (ah (show wr.heap[tb]?=_ from f.tb) (e ▸ A)) (by decide)⟩
   cases a with
   | false =>
    go_wp2_with fail;clear t0 t1 t2 t3 t4 t5 FY FI Fy FW FM FG;refine(yU CC wr r tg nm ls v ⟨D,0,⟨#[]⟩,D,s,st⟩ f.mi f.eu Gh rfl).mono ?_;rintro e w3 ⟨rfl,v',n6⟩;have QQ:=ae n6;clear n6;obtain⟨M,Bk⟩:∃ M,M=fh S s:=⟨_,rfl⟩
    have Ga:=ae Bk;simp only at QQ ⊢;rw[<-Bk] at QQ ⊢;clear Bk;have NX:Hid (bO S (aL S n making) tg (200 - p.length) made (p++[⟨M,0,⟨#[]⟩⟩]) (ls++[⟨s,D,M⟩])=R0):=by show _=_;have:=f.run;rw[show 201 - p.length=(200 - p.length)+1 by omega,bO,F7.out,a8 (by simp),eT rfl,<-Ga.out] at this;exact this
    have FE:=ae f.pg;have ld:Hid (RG S made (p++[⟨M,0,⟨#[]⟩⟩]) (ls++[⟨s,D,M⟩])):=f.rg.add (by rw[Ga.out];exact jS _ _) DE (fun h=>by cases h);have FP:Hid (ed S making made (200 - p.length)):=by have:=f.room;unfold ed at this ⊢;show _<=_;omega
    have FS:=ae f.ext;have mv:Hid ((⟨M,0,⟨#[]⟩⟩:aA).text.size<=2000):=CS _;have BK:Hid (w3.heap[b]?=wr.heap[b]?):=by obtain⟨QP,A⟩:=f.ty;exact QQ.2.2.1.blk b _ _ _ A (by decide) (by decide) (by decide) fun h=>by rcases h with h | h;exact Gk h.symm;exact(Fj b h).1 rfl
    have TK:Hid (TB w3 tb ⟨D,0,⟨#[]⟩,D,s,st⟩):=by have h0:=f.tb;rw[Gg.out] at h0;exact(QQ.2.2.1.blk tb _ _ _ h0 (by decide) (by decide) (by decide) fun h=>by rcases h with h | h;exact R h.symm;exact(Fj tb h).2 rfl).trans h0
    have DA:wr.heap.size<=w3.heap.size:=QQ.2.2.1.below.size;have FT:=ae (f.ma.blk BK DA);have Fp:Hid (∃ QP,w3.heap[b]?=N (T QP 142 (0,0))):=by obtain⟨QP,A⟩:=f.ty;exact⟨QP,BK.trans A⟩
    go_wp2_with fail;refine(jp b QG QH (S.f1 tg).actN QJ (S.f1 tg).act m D s s2 pp st (p.length+1) ⟨M,0,⟨#[]⟩⟩ _ FT (At _ _ QQ.1.bel (j5 QL hb)) f.st (by omega) mv (by omega) FJ).mono ?_;rintro e w4 ⟨QK,H2,rfl,ro,sm,ph,n7,z⟩;have FK:=ae ro;have FH:=ae sm;have FN:=ae ph;have FL:=ae (f.co.step n7);have O4:=ae z;obtain⟨Gw,L⟩:=Fp.out;have la:=ae (QQ.1.only L (by decide) (j5 QL hb) z);have FA:=ae (QQ.2.1.only L (by decide) z);have QM:=ae (TK.only z (by omega));have Fz:=ae (z.ty _ _ _ L);have K4:=ae ((f.kx.trans QQ.2.2.1 (fun i hi h=>by rcases h with h | h;exact h;exact absurd (f.vn i h) (by omega))).trans (KX.of_only (X:=fun i=>i=b) z rfl QQ.1.lt (j5 QL hb)) (fun i hi h=>by have e2:i=b:=h;omega));have Fv:Hid (∀ k,v'.ownBlock=N k->w.heap.size<=k):=fun k hk=>by
     rcases QQ.2.2.2 k hk with h | h
     ·exact f.vn k h
     ·exact j5 f.kx.below.size h
    clear ro sm ph n7 z L;obtain⟨ul,u0,u1,u2,u3,u4,u5,O⟩:=QM.facts;have GC:=O 0;have Gy:=O 1;have Gq:=O 2;have GE:=O 3;have Gv:=O 4;have Gt:=O 5;clear O;obtain⟨g,rfl⟩:∃ g,gk=g+1:=⟨gk - 1,by omega⟩
    have Fw:=ae (QM.put QK.t);have OP:Hid (Only tb w4 (eF w4 tb QK.t)):=kD QK.t;have n8:w0.heap.size<=tb:=j5 QL FX;have q:(p++[(⟨M,0,⟨#[]⟩⟩:aA)]).length=p.length+1:=by simp
    have FQ:Hid (RI w0 S mb mp (Z a0 S.n0 c0) (Z a1 S.n1 c1) w n making r tg nm b (Z (N (J QG QH Y)) (S.f1 tg).actN QJ) tb o G0 V0 R0 (eF w4 tb QK.t) (p++[⟨M,0,⟨#[]⟩⟩]) (ls++[⟨s,D,M⟩]) made G V mk md v' QK H2) :=
     ⟨la.only QM (by decide) n8 OP,FE,ld,(by rw[q,show 201 - (p.length+1)=200 - p.length by omega];exact FP),FA.only QM (by decide) OP,FK.boxed (by omega) QK.t,(by obtain⟨QP,A⟩:=Fz.out;exact⟨QP,(OP.block b (ai A) (by omega)).trans A⟩),Fw,FH,(by rw[q];exact FN),FL,(by rw[q,show 201 - (p.length+1)=200 - p.length by omega];exact NX),(by rw[q];omega),FS,K4.trans (KX.of_only (X:=fun i=>i=tb) OP rfl la.lt n8) (fun i hi h=>by have e2:i=tb:=h;omega),Fv⟩
    simp only[Turn.v];go_wp2;go_roundg g;case measure=>omega
    case rel=>exact⟨_,_,_,_,_,_,_,_,_,_,FQ,by rw[q];omega⟩
   | true =>
    go_wp2_with fail;clear t0 t1 t2 t3 t4 t5 FY FI Fy FW FM FG;refine(yV CC n Gx wr r tg nm ls v ⟨D,0,⟨#[]⟩,QC,s,st⟩ Gp f.mi f.pg (by have:=f.room;unfold ed at this ⊢;omega) f.eu Gh rfl DE).mono ?_;intro e w3 QN;simp only at QN;have QO:=f.run;rw[show 201 - p.length=(200 - p.length)+1 by omega,bO,F7.out,a8 (by simp),a8 (by simp)] at QO;simp only at QO;rcases hr:aL S n making made s with ⟨P,x⟩ | c | d
    ·rw[hr] at QN QO
     dsimp only at QO;obtain⟨rfl,G2,V2,Gs,GF,v',n6,Fs⟩:=QN;obtain⟨Fo,-,hx,F0⟩:=cP CC.ok n making made s P x f.pg DE hr;have Fk:=gj S n making made s P x hr;have QQ:=ae n6;have NX:=ae QO;have FE:=ae Fo;have Fu:fg x=⟨decide (¬ x.kind=2),x.code,x.text⟩:=rfl;have ld:Hid (RG S P (p++[fg x]) (ls++[⟨s,QC,D⟩])):=(f.rg.mono Fs.mem).add (iO (Fo.ents x hx)) DE (fun _=>⟨x,hx,F0⟩);have FP:Hid (ed S making P (200 - p.length)):=by have:=f.room;unfold ed at this ⊢;unfold fq at Fk;show _<=_;omega
     have FS:=ae (f.ext.trans Fs f.kx.below.size);have mv:Hid ((fg x).text.size<=2000):=(Fo.ents x hx).tx;rw[Fu] at NX ld mv;clear n6 QO Fo hx F0 Fk Fs hr Fu;obtain⟨kb,Gn⟩:∃ kb,kb=decide (¬ x.kind=2):=⟨_,rfl⟩
     rw[<-Gn] at NX ld mv ⊢;clear Gn;have BK:Hid (w3.heap[b]?=wr.heap[b]?):=by obtain⟨QP,A⟩:=f.ty;exact QQ.2.2.1.blk b _ _ _ A (by decide) (by decide) (by decide) fun h=>by rcases h with h | h;exact Gk h.symm;exact(Fj b h).1 rfl
     have TK:Hid (TB w3 tb ⟨D,0,⟨#[]⟩,QC,s,st⟩):=by have h0:=f.tb;rw[Gg.out] at h0;exact(QQ.2.2.1.blk tb _ _ _ h0 (by decide) (by decide) (by decide) fun h=>by rcases h with h | h;exact R h.symm;exact(Fj tb h).2 rfl).trans h0
     have DA:wr.heap.size<=w3.heap.size:=QQ.2.2.1.below.size;have FT:=ae (f.ma.blk BK DA);have Fp:Hid (∃ QP,w3.heap[b]?=N (T QP 142 (0,0))):=by obtain⟨QP,A⟩:=f.ty;exact⟨QP,BK.trans A⟩
     go_wp2_with fail;refine(jp b QG QH (S.f1 tg).actN QJ (S.f1 tg).act m QC s s2 pp st (p.length+1) ⟨kb,x.code,x.text⟩ _ FT (At _ _ QQ.1.bel (j5 QL hb)) f.st (by omega) mv (by omega) FJ).mono ?_;rintro e w4 ⟨QK,H2,rfl,ro,sm,ph,n7,z⟩;have FK:=ae ro;have FH:=ae sm;have FN:=ae ph;have FL:=ae (f.co.step n7);have O4:=ae z;obtain⟨Gw,L⟩:=Fp.out;have la:=ae (QQ.1.only L (by decide) (j5 QL hb) z);have FA:=ae (QQ.2.1.only L (by decide) z);have QM:=ae (TK.only z (by omega));have Fz:=ae (z.ty _ _ _ L);have K4:=ae ((f.kx.trans QQ.2.2.1 (fun i hi h=>by rcases h with h | h;exact h;exact absurd (f.vn i h) (by omega))).trans (KX.of_only (X:=fun i=>i=b) z rfl QQ.1.lt (j5 QL hb)) (fun i hi h=>by have e2:i=b:=h;omega));have Fv:Hid (∀ k,v'.ownBlock=N k->w.heap.size<=k):=fun k hk=>by
      rcases QQ.2.2.2 k hk with h | h
      ·exact f.vn k h
      ·exact j5 f.kx.below.size h
     clear ro sm ph n7 z L;obtain⟨ul,u0,u1,u2,u3,u4,u5,O⟩:=QM.facts;have GC:=O 0;have Gy:=O 1;have Gq:=O 2;have GE:=O 3;have Gv:=O 4;have Gt:=O 5;clear O;obtain⟨g,rfl⟩:∃ g,gk=g+1:=⟨gk - 1,by omega⟩
     have Fw:=ae (QM.put QK.t);have OP:Hid (Only tb w4 (eF w4 tb QK.t)):=kD QK.t;have n8:w0.heap.size<=tb:=j5 QL FX;have q:(p++[(⟨kb,x.code,x.text⟩:aA)]).length=p.length+1:=by simp
     have FQ:Hid (RI w0 S mb mp (Z a0 S.n0 c0) (Z a1 S.n1 c1) w n making r tg nm b (Z (N (J QG QH Y)) (S.f1 tg).actN QJ) tb o G0 V0 R0 (eF w4 tb QK.t) (p++[⟨kb,x.code,x.text⟩]) (ls++[⟨s,QC,D⟩]) P G2 V2 Gs GF v' QK H2) :=
      ⟨la.only QM (by decide) n8 OP,FE,ld,(by rw[q,show 201 - (p.length+1)=200 - p.length by omega];exact FP),FA.only QM (by decide) OP,FK.boxed (by omega) QK.t,(by obtain⟨QP,A⟩:=Fz.out;exact⟨QP,(OP.block b (ai A) (by omega)).trans A⟩),Fw,FH,(by rw[q];exact FN),FL,(by rw[q,show 201 - (p.length+1)=200 - p.length by omega];exact NX),(by rw[q];omega),FS,K4.trans (KX.of_only (X:=fun i=>i=tb) OP rfl la.lt n8) (fun i hi h=>by have e2:i=tb:=h;omega),Fv⟩
     simp only[Turn.v];go_wp2;go_roundg g;case measure=>omega
     case rel=>exact⟨_,_,_,_,_,_,_,_,_,_,FQ,by rw[q];omega⟩
    ·rw[hr] at QN QO
     obtain⟨u,rfl,h1,h2⟩:=QN;subst QO;go_wp2_with fail;exact⟨rfl,u,rfl,h1,f.kx.below.trans h2⟩
    ·rw[hr] at QN QO
     obtain⟨rfl,h2⟩:=QN;subst QO;go_wp2_with fail;exact⟨rfl,rfl,f.kx.below.trans h2⟩
end
end Go.Proofs.YtkdimgejdocbbaaGreatDoor.Vp
