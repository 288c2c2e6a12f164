import Derived.Test.YtkdimgejdocbbaaGreatDoorXC
import Derived.Test.YtkdimgejdocbbaaGreatDoorYR
import Derived.Deep.Cut
set_option maxRecDepth 1000000
set_option maxHeartbeats 8000000
open Go.Addr renaming mk->J
open Go.Value renaming slice->Z,string->U,int->Q,bool->QA,agg->QE
open Option renaming none->Y,some->N
open Go.Obj renaming cells->T
open Go.IntKind renaming i64->I
open Go renaming World->E,Value->QB,TypeId->QF
open Bool renaming false->D,true->QC
open Go.Ending renaming returned->QD
namespace Go.Proofs.YtkdimgejdocbbaaGreatDoor.Vp
open RowKit
structure SB (w0:E)(hb:Nat)(s0 s1:QB)(w:E)(making:List ByteArray)(pv:QB)(wr:E)(ys:List aA)(ls:List Lk)(made:List Ent)(L:List SM)(md or st:QB)(g6 c6 g7 c7:Nat):Prop where
 si:SI w0 hb s0 s1 wr making made L md or st
 r6:wr.ownsRow w.heap.size 66 3 (Z (N (J g6 0 Y)) ys.length c6) ys.length (kZ ys)
 r7:wr.ownsRow w.heap.size 242 3 (Z (N (J g7 0 Y)) ls.length c7) ls.length (eY ls)
 ap:∀ m∈L,m.done=QC->m.sv.ownBlock≠N g7
 kp:wr.heap[w.heap.size]?=N (T #[pv] 31 (0,0))
 kr:wr.heap[w.heap.size+1]?=N (T #[Q I 0,U ⟨#[]⟩,Z Y 0 0] 41 (0,0))
 kx:KS w0.heap.size XN w wr
structure SR (w0:E)(S:Spc)(hb:Nat)(s0 s1:QB)(w:E)(n:Nat)(making:List ByteArray)(tg:Nat)(pv:QB)(L0:List SM)(R0:Out (Turn × List Lk))(wr:E)(ys:List aA)(ls:List Lk)(made:List Ent)(L:List SM)(md or st:QB)(g6 c6 g7 c7:Nat):Prop where
 sb:SB w0 hb s0 s1 w making pv wr ys ls made L md or st g6 c6 g7 c7
 rel:fE L making made
 pg:PG S making made
 rg:RG S made ys ls
 room:eJ S making made (201 - ys.length)
 run:bO S (aL S n making) tg (201 - ys.length) made ys ls=R0
 le:ys.length<=200
 ext:LExt w.heap.size L0 L
def TBx (w:E)(g:Nat)(over:Bool)(code:Int)(text:ByteArray)(ask:Bool)(name:ByteArray)(steps:Int):Prop:=w.heap[g]?=N (T #[QA over,Q I code,U text,QA ask,U name,Q I steps] 61 (0,0))
theorem TBx.cells {w:E}{g:Nat}{over:Bool}{code:Int}{text:ByteArray}{ask:Bool}{name:ByteArray}{steps:Int}(h:TBx w g over code text ask name steps):w.cell? (J g 0 Y)=N (QA over)/\w.cell? (J g 1 Y)=N (Q I code)/\w.cell? (J g 2 Y)=N (U text)/\w.cell? (J g 3 Y)=N (QA ask)/\w.cell? (J g 4 Y)=N (U name):=by unfold TBx at h;refine⟨?_,?_,?_,?_,?_⟩;all_goals simp[World.cell?,h]
def nN (w0:E)(hb:Nat)(s0 s1:QB)(making:List ByteArray)(L:List SM)(w:E)(e:Ending)(w':E):Out (Turn × List Lk)->Prop
 | .inl (made',x)=>∃ b f h i g c,e=QD (.tuple #[QE #[Q I x.1.code,U x.1.text,Z Y 0 0],Z (N (J g 0 Y)) x.2.length c])/\SI w0 hb s0 s1 w' making made' b f h i/\fE b making made'/\w'.ownsRow w.heap.size 242 3 (Z (N (J g 0 Y)) x.2.length c) x.2.length (eY x.2)/\(∀ m∈b,m.done=QC->m.sv.ownBlock≠N g)/\LExt w.heap.size L b/\KS w0.heap.size XN w w'
 | .inr (.inl c)=>∃ a k sv,e=QD (.tuple #[gK (jw c) (Z a c.length k),sv])/\ij w0 hb w' (jw c) (Z a c.length k)/\KS w0.heap.size XN w w'
 | .inr (.inr d)=>∃ sv,e=QD (.tuple #[gK (jx d) (Z Y 0 0),sv])/\ij w0 hb w' (jx d) (Z Y 0 0)/\KS w0.heap.size XN w w'
theorem iI (w:E)(g f d:QB)(t:QF):∀ j u,[g,f,d][j]?=N u->(w.alloc (T #[g,f,d] t)).cell? (((J w.heap.size 0 Y):Addr).add j)=N u:=by
 intro j u h;rw[addr_add];have hj:j<3:=by
  rcases IX j 3 with b | b
  ·exact b
  ·rw[IQ (by simp;omega)] at h;cases h
 rcases(show j=0∨j=1∨j=2 by omega) with rfl | rfl | rfl;all_goals
  simp at h;subst h;simp
theorem aZ {w:E}{b:Nat}{d g f:QB}{t:QF}(h:w.heap[b]?=N (T #[d,g,f] t (0,0))):b<w.heap.size/\w.cell? (J b 0 Y)=N d/\w.cell? (J b 1 Y)=N g/\w.cell? (J b 2 Y)=N f/\∀ j,w.frozen? (J b j Y)=D:=by refine⟨ai h,?_,?_,?_,fun j=>?_⟩;all_goals simp[World.cell?,World.frozen?,h]
section
variable {w0 w w':E}{hb:Nat}{s0 s1 md or st:QB}{making:List ByteArray}{made:List Ent}{L:List SM}
theorem SI.grown {v:QB}{j size n:Nat}{e:QF}{B:List QB}(h:SI w0 hb s0 s1 w making made L md or st)(b:w.grownBy w' v.ownBlock)(QQ:w.ownsRow j e size v n B)(hB:w0.heap.size<=j)(q:e≠9/\e≠239/\e≠132)(QP:∀ m∈L,m.done=QC->∀ k,v.ownBlock=N k->m.sv.ownBlock≠N k):SI w0 hb s0 s1 w' making made L md or st:=by
 have z:=af QQ;have r:∀ (i:Nat) (p:Array QB) (t:QF) (fz:Nat × Nat),w.heap[i]?=N (Obj.cells p t fz)->t≠e->w'.heap[i]?=w.heap[i]?:=fun i p t fz hi l=>b.block i (ai hi) fun g=>by obtain⟨_,_,cs2,o⟩:=z i g.symm;exact l (ah hi o)
 have d:∀ {size n:Nat} {t:QF} {u:QB} {A:List QB},w.ownsRow w0.heap.size t size u n A->t≠e->w'.ownsRow w0.heap.size t size u n A:=fun y l=>bI y fun k f=>by obtain⟨_,_,p,o⟩:=af y k f;exact r _ _ _ _ o l
 refine⟨h.bel.trans ⟨b.os,b.tape,b.output,b.size,fun k f=>b.block k (ll f h.lt) fun g=>?_⟩,h.hbB,h.box.blk (r _ _ _ _ h.box q.2.2.symm),d h.rmd q.2.1.symm,d h.ror q.1.symm,d h.rst q.1.symm,h.apart,fun m x s=>bI (h.seen m x s) fun k f=>?_⟩
 ·have:=(z k g.symm).1
  omega
 ·obtain⟨_,C,p,o⟩:=af (h.seen m x s) k f
  exact b.block k C fun g=>QP m x s k g.symm f
theorem KS.grow {v:QB}{b size n:Nat}{e:QF}{k:List QB}{W:E}{B:Nat}(h:KS B XN W w)(l:w.grownBy w' v.ownBlock)(f:w.ownsRow b e size v n k)(o:W.heap.size<=b)(g:B<=W.heap.size):KS B XN W w' :=
 h.trans (QH:=fun i=>v.ownBlock=N i) (KS.of_grown l (j5 g h.below.size) fun j d=>⟨j5 (j5 g o) (af f j d).1,.inl d⟩) fun i hi m=>by have:=(af f i m).1;omega
theorem SB.below {W wr f:E}{n:QB}{m:List aA}{j:List Lk}{k i l g C:Nat}(h:SB w0 hb s0 s1 W making n wr m j made L md or st k i l g)(b:Below C wr f)(d:wr.heap.size<=C):SB w0 hb s0 s1 W making n f m j made L md or st k i l g :=
 ⟨h.si.below b d,own_below h.r6 b d,own_below h.r7 b d,h.ap,(b.block _ (ll (ai h.kp) d)).trans h.kp,(b.block _ (ll (ai h.kr) d)).trans h.kr,h.kx.to (KS.of_below b d h.si.lt)⟩
theorem SB.more {W QJ QL QN C R:E}{pv X K:QB}{j:List aA}{f:List Lk}{u V g M:Nat}{r:aA}{l:Lk}(h:SB w0 hb s0 s1 W making pv QJ j f made L md or st u V g M)(O:w0.heap.size<=W.heap.size)
  (b3:Below QJ.heap.size QJ QL) (S:QN.ownsRow W.heap.size 66 3 X (j.length+1) (kZ j++[QA r.has,Q I r.code,U r.text])) (QO:QL.grownBy QN (N u))
  (n:Below QN.heap.size QN C) (o4:R.ownsRow W.heap.size 242 3 K (f.length+1) (eY f++[U l.name,QA l.ask,QA l.has])) (G:C.grownBy R (N g)) (QP:K.ownBlock=N g∨K.ownBlock=N C.heap.size) :
  ∃ s q d t,X=Z (N (J s 0 Y)) (j++[r]).length q/\K=Z (N (J d 0 Y)) (f++[l]).length t/\SB w0 hb s0 s1 W making pv R (j++[r]) (f++[l]) made L md or st s q d t:=by
 have b:=h.below b3 lr;have aq:W.heap.size<QL.heap.size:=ai b.kp;have bt:W.heap.size+1<QL.heap.size:=ai b.kr;have QG:=af b.r6 u rfl;obtain⟨hg6,hg6l,cs6,i⟩:=QG
 have s3:=b.si.grown (v:=Z (N (J u 0 Y)) j.length V) QO b.r6 O ⟨by decide,by decide,by decide⟩ (fun m x z k p e=>by
  cases p
  obtain⟨_,_,cs,H⟩:=af (b.si.seen m x z) u e
  exact absurd (ah i H) (by decide))
 have k3:=KS.grow (v:=Z (N (J u 0 Y)) j.length V) b.kx QO b.r6 lr O;have QH:QN.ownsRow W.heap.size 242 3 (Z (N (J g 0 Y)) f.length M) f.length (eY f):=bI b.r7 fun k p=>by obtain⟨_,QK,cs,H⟩:=af b.r7 k p;exact QO.block k QK fun e=>by cases e;exact absurd (ah i H) (by decide)
 have QM:=(QO.block W.heap.size aq fun e=>by cases e;exact absurd (ah i b.kp) (by decide)).trans b.kp;have P:=(QO.block (W.heap.size+1) bt fun e=>by have y:=H8 e;exact absurd (ah i (y ▸ b.kr)) (by decide)).trans b.kr;obtain⟨s,q,cu6,rfl,-⟩:=S.2.resolve_left (fun h=>by omega);have s4:=s3.below n lr;have QQ:=own_below QH n lr;obtain⟨hg7,hg7l,cs7,o⟩:=af QQ g rfl;have B:=(n.block W.heap.size (ai QM)).trans QM;have A:=(n.block (W.heap.size+1) (ai P)).trans P;have s5:=s4.grown (v:=Z (N (J g 0 Y)) f.length M) G QQ O ⟨by decide,by decide,by decide⟩ (fun m x z k p e=>by cases p;exact h.ap m x z e);have k5:=KS.grow (v:=Z (N (J g 0 Y)) f.length M) (k3.to (KS.of_below n lr s3.lt)) G QQ lr O;obtain⟨d,t,cu7,rfl,-⟩:=o4.2.resolve_left (fun h=>by omega);have e6:(j++[r]).length=j.length+1:=by simp
 have e7:(f++[l]).length=f.length+1:=by simp
 refine⟨s,q,d,t,by rw[e6],by rw[e7],s5,?_,?_,fun m x z e=>?_,?_,?_,k5⟩
 ·rw[e6,Bd]
  refine bI (own_below S n lr) fun k p=>?_;obtain⟨_,QK,cs,H⟩:=af (own_below S n lr) k p;exact G.block k QK fun e=>by cases e;exact absurd (ah o H) (by decide)
 ·rw[e7,yS]
  exact o4
 ·rcases QP with QP | QP
  ·have y:d=g:=H8 (show N d=N g from QP)
   exact h.ap m x z (y ▸ e)
  ·have y:d=C.heap.size:=H8 (show N d=N C.heap.size from QP)
   have:=(af (s4.seen m x z) _ e).2.1;omega
 ·exact(G.block W.heap.size (ai B) fun e=>by cases e;exact absurd (ah o B) (by decide)).trans B
 ·exact(G.block (W.heap.size+1) (ai A) fun e=>by have y:=H8 e;exact absurd (ah o (y ▸ A)) (by decide)).trans A
theorem SI.setOff {b:Nat}{r:Array QB}{t:QF}{fz:Nat × Nat}(h:SI w0 hb s0 s1 w making made L md or st)(g:w.heap[b]?=N (T r t fz))(f:t≠9/\t≠239/\t≠132/\t≠242)(x:w0.heap.size<=b)(j:Nat)(u:QB):SI w0 hb s0 s1 (w.setCell (J b j Y) u) making made L md or st:=by
 have d:∀ {size n:Nat} {i:QF} {o:QB} {p:List QB},w.ownsRow w0.heap.size i size o n p->t≠i->(w.setCell (J b j Y) u).ownsRow w0.heap.size i size o n p:=fun k l=>az k (fun e=>by
  obtain⟨_,_,cs2,q⟩:=af k b e
  exact l (ah g q)) _ _
 refine⟨h.bel.setCell x u,h.hbB,h.box.blk (qh _ _ _ _ fun e=>?_),d h.rmd f.2.1,d h.ror f.1,d h.rst f.1,h.apart,fun m y s=>d (h.seen m y s) f.2.2.2⟩;simp at e;subst e;exact f.2.2.1 (ah g h.box)
theorem SB.step {W wr p:E}{t g i f:QB}{y:List aA}{s:List Lk}{x u l q:Nat}{b:List Ent}{n:List SM}(h:SB w0 hb s0 s1 W making t wr y s made L md or st x u l q)(d:KS w0.heap.size XN wr p)(B:SI w0 hb s0 s1 p making b n g i f)(C:LExt wr.heap.size L n):SB w0 hb s0 s1 W making t p y s b n g i f x u l q:=by
 refine⟨B,bI h.r6 fun k o=>?_,bI h.r7 fun k o=>?_,fun m QP QQ e=>?_,(d.blk _ _ _ _ h.kp (by decide) (by decide) (by decide) fun h=>h).trans h.kp,(d.blk _ _ _ _ h.kr (by decide) (by decide) (by decide) fun h=>h).trans h.kr,h.kx.to d⟩
 ·obtain⟨_,_,A,j⟩:=af h.r6 k o
  exact d.blk _ _ _ _ j (by decide) (by decide) (by decide) fun h=>h
 ·obtain⟨_,_,A,j⟩:=af h.r7 k o
  exact d.blk _ _ _ _ j (by decide) (by decide) (by decide) fun h=>h
 ·rcases C.sn m QP QQ with ⟨m0,G,r,z⟩ | h1
  ·exact h.ap m0 G r (by rw[z];exact e)
  ·have h2:=h1 _ e
   have h3:=(af h.r7 l rfl).2.1;omega
theorem SB.setOff {W wr:E}{o:QB}{r:List aA}{l:List Lk}{f p m g b:Nat}{k:Array QB}{t:QF}(h:SB w0 hb s0 s1 W making o wr r l made L md or st f p m g)(d:wr.heap[b]?=N (T k t (0,0)))(n:t≠9/\t≠239/\t≠132/\t≠242)(hB:w0.heap.size<=W.heap.size)(hb1:W.heap.size+2<=b)(q:b≠f)(j:Nat)(u:QB):SB w0 hb s0 s1 W making o (wr.setCell (J b j Y) u) r l made L md or st f p m g/\(wr.setCell (J b j Y) u).heap[b]?=N (T (k.setIfInBounds j u) t (0,0)):=by refine⟨⟨h.si.setOff d n (by omega) j u,az h.r6 (fun e=>q (H8 e).symm) _ _,az h.r7 (fun e=>?_) _ _,h.ap,(qh _ _ _ _ (show W.heap.size≠b by omega)).trans h.kp,(qh _ _ _ _ (show W.heap.size+1≠b by omega)).trans h.kr,h.kx.trans (KS.setCell (X:=fun i=>i=b) _ (by omega) (Or.inl rfl) u) fun i hi x=>by have e2:i=b:=x;omega⟩,aw d u⟩;obtain⟨_,_,cs2,s⟩:=af h.r7 b e;exact n.2.2.2 (ah d s)
theorem Bo {S:Spc}{x:Ent}(h:EG S x):∃ j k g d f,cR x=⟨j,k,[]⟩/\fg x=⟨g,d,f⟩/\(fh S x.name=D/\j=4/\g=D/\d=0/\f=⟨#[]⟩∨fh S x.name=QC/\g=QC/\d=j/\f=k):=by
 unfold cR fg fh;rw[ii,ii];rcases h.kind with ⟨b,_,_,i,hi,_⟩ | ⟨b,m,l,_,n,h1⟩ | ⟨b,_,h1⟩
 ·exact⟨x.code,x.text,QC,x.code,x.text,by rw[a8 (by omega)],by simp[b],.inr ⟨by rw[hi];rfl,rfl,rfl,rfl⟩⟩
 ·exact⟨4,x.name,D,0,⟨#[]⟩,by rw[eT b],by simp[b,m,l],.inl ⟨by rw[n,h1];rfl,rfl,rfl,rfl,rfl⟩⟩
 ·exact⟨x.code,x.text,QC,x.code,x.text,by rw[a8 (by omega)],by simp[b],.inr ⟨by rw[h1];simp,rfl,rfl,rfl⟩⟩
end
section
variable {w0:E}{S:Spc}{a0 a1:Option Addr}{c0 c1 hb:Nat}{making:List ByteArray}
theorem Bp (C:kX w0 S a0 a1)(n:Nat)(HK:mu w0 S hb (Z a0 S.n0 c0) (Z a1 S.n1 c1) n)(z:List Ent)(L0:List SM)(Fo Ft Fj:QB)(w:E)(a:Option Addr)(A tg:Nat)(Gv:making.length+n=60)(h:SI w0 hb (Z a0 S.n0 c0) (Z a1 S.n1 c1) w making z L0 Fo Ft Fj)(hrel:fE L0 making z)(hp:PG S making z)(Fi:eJ S making z 201)(FY:MT S making)(Fp:tg<S.n1)(Ge:SlIns w0 a (S.f1 tg).actN (S.f1 tg).act):Calls Tryz.prog 217 #[.pointer (N (J hb 0 Y)),QE #[Z a (S.f1 tg).actN A]] w fun e w'=>nN w0 hb (Z a0 S.n0 c0) (Z a1 S.n1 c1) making L0 w e w' (bO S (aL S n making) tg 201 z [] []):=by
 obtain⟨i6,Gc,FV,FX,FZ⟩:=eZ xu;obtain⟨i7,Gj,Gt,F4,Gs⟩:=eZ Bc;obtain⟨hok,hc1,Fr⟩:=bY (C.ok.act tg Fp);obtain⟨K,M,rfl,F3⟩:∃ K M,a=N (J K M Y)/\RowIns w0 K M (S.f1 tg).actN (S.f1 tg).act:=by
  rcases Ge with h | ⟨b,off,e,hr⟩
  ·omega
  ·exact⟨b,off,e,hr⟩
 have GC:=ae F3;have CC:=ae C;have GO:=ae HK;have ld:w0.heap.size<=w.heap.size:=h.lt;have GJ:=ae (Be C.ok Fp);obtain⟨R0,FK⟩:∃ R0,R0=bO S (aL S n making) tg 201 z [] []:=⟨_,rfl⟩
 rw[<-FK];have GM:=ae FK;have A2:=ae (((Qs w).alloc lr (T #[Z (N (J K M Y)) (S.f1 tg).actN A] 31)).alloc (by simp) (T #[Q I 0,U ⟨#[]⟩,Z Y 0 0] 41));have z2:((w.alloc (T #[Z (N (J K M Y)) (S.f1 tg).actN A] 31)).alloc (T #[Q I 0,U ⟨#[]⟩,Z Y 0 0] 41)).heap.size=w.heap.size+2:=by simp
 have kp:Hid (((w.alloc (T #[Z (N (J K M Y)) (S.f1 tg).actN A] 31)).alloc (T #[Q I 0,U ⟨#[]⟩,Z Y 0 0] 41)).heap[w.heap.size]?=N (T #[Z (N (J K M Y)) (S.f1 tg).actN A] 31 (0,0))) :=
  (((eI (w.heap.size+1) _).alloc (by simp) _).block w.heap.size (by omega)).trans (eL w _)
 have kr:Hid (((w.alloc (T #[Z (N (J K M Y)) (S.f1 tg).actN A] 31)).alloc (T #[Q I 0,U ⟨#[]⟩,Z Y 0 0] 41)).heap[w.heap.size+1]?=N (T #[Q I 0,U ⟨#[]⟩,Z Y 0 0] 41 (0,0))):=by have h2:=eL (w.alloc (T #[Z (N (J K M Y)) (S.f1 tg).actN A] 31)) (T #[Q I 0,U ⟨#[]⟩,Z Y 0 0] 41);rw[show(w.alloc (T #[Z (N (J K M Y)) (S.f1 tg).actN A] 31)).heap.size=w.heap.size+1 by simp] at h2;exact h2
 have Fd:=ae (h.below A2 lr);have F8:=ae hrel;have Gk:=ae hp;have F9:=ae Fi;have Gz:=ae FY;clear h C HK F3 Ge FK hrel hp Fi FY;go_enter Tryz.func217,Tryz.ntmps217;go_upto_region 1 with fail;generalize (w.alloc (T #[Z (N (J K M Y)) (S.f1 tg).actN A] 31)).alloc (T #[Q I 0,U ⟨#[]⟩,Z Y 0 0] 41)=W2 at A2 z2 kp kr Fd ⊢;have hzW2:w.heap.size+2<=W2.heap.size:=by omega
 clear z2;have A3:=ae ((Qs W2).alloc lr (T #[] 66));have O6:=ae (jW W2 66 3);go_upto_region 2 with fail;generalize W2.alloc (T #[] 66)=W3 at A3 O6 ⊢;have A4:=ae ((Qs W3).alloc lr (T #[] 242));have O7:=ae (jW W3 242 3);go_wp2_with fail;generalize W3.alloc (T #[] 242)=W4 at A4 O7 ⊢;have n9:=ae (A3.trans (A4.mono A3.size));have AW:=ae (A2.trans (n9.mono A2.size));have hw32:W2.heap.size<=W3.heap.size:=A3.size;have Ga:Hid (SB w0 hb (Z a0 S.n0 c0) (Z a1 S.n1 c1) w making (Z (N (J K M Y)) (S.f1 tg).actN A) W4 [] [] z L0 Fo Ft Fj W2.heap.size 0 W3.heap.size 0):=by refine⟨Fd.below n9 lr,aI (own_below O6 A4 lr) (by omega),aI O7 (by omega),fun m hm hd e=>?_,(n9.block _ (by omega)).trans kp,(n9.block _ (by omega)).trans kr,KS.of_below AW lr ld⟩;have:=(af (Fd.seen m hm hd) _ e).2.1;omega
 have Gf:Hid (SR w0 S hb (Z a0 S.n0 c0) (Z a1 S.n1 c1) w n making tg (Z (N (J K M Y)) (S.f1 tg).actN A) L0 R0 W4 [] [] z L0 Fo Ft Fj W2.heap.size 0 W3.heap.size 0) :=
  ⟨Ga,F8,Gk,gn S z,F9,GM.symm,CS _,LExt.refl _ _⟩
 clear Ga O6 O7 A3 A4 A2 n9 AW Fd F8 Gk F9 kp kr;go_loopg [6,7] 202 (fun g v6 v7 wr=>∃ f QO made L md or st g6 c6 g7 c7,v6=Z (N (J g6 0 Y)) (List.length (α:=aA) f) c6/\v7=Z (N (J g7 0 Y)) (List.length (α:=Lk) QO) c7/\Hid (SR w0 S hb (Z a0 S.n0 c0) (Z a1 S.n1 c1) w n making tg (Z (N (J K M Y)) (S.f1 tg).actN A) L0 R0 wr f QO made L md or st g6 c6 g7 c7)/\201 - f.length<=g);case atStart=>exact⟨[],[],z,L0,Fo,Ft,Fj,_,_,_,_,rfl,rfl,Gf,by simp⟩
 case round =>
  clear Gf;obtain⟨f,QO,made,L,md,or,st,g6,c6,g7,c7,rfl,rfl,u,hg⟩:=hrel;have k0:wr.cell? (J w.heap.size 0 Y)=N (Z (N (J K M Y)) (S.f1 tg).actN A):=by simp[World.cell?,u.sb.kp]
  have hkl:=ai u.sb.kp;have hy:=u.le;have Gh:QO.length=f.length:=u.rg.len;obtain⟨QK,hT⟩:∃ QK,QK=bF S tg f:=⟨_,rfl⟩
  have HT:=ae hT;have F7:=ae Gh;clear hT Gh;go_wp2_with fail;refine(sJ K M (S.f1 tg).actN A g6 0 f.length c6 (S.f1 tg).act (yL f) wr (by omega) (GC.below u.sb.si.bel lr) (Dx u.sb.r6) GJ).mono ?_;rintro e QM ⟨he,V⟩;rw[yT CC.ok Fp u.rg.good u.le,<-HT.out] at he;subst he;have GS:=ae (u.sb.below V lr);have FC:=ae (kH CC.ok Fp u.rg.good);rw[<-HT.out] at FC;clear V k0;obtain⟨over,code,text,ask,name,steps⟩:=QK;simp only[Turn.v];have A5:=ae ((Qs QM).alloc lr (T #[QA over,Q I code,U text,QA ask,U name,Q I steps] 61));have kt:Hid (TBx (QM.alloc (T #[QA over,Q I code,U text,QA ask,U name,Q I steps] 61)) QM.heap.size over code text ask name steps):=eL _ _;obtain⟨t0,t1,t2,t3,t4⟩:=kt.cells;have o:=ae (GS.below A5 lr);cases over with
  | true =>
   have GY:Hid (R0=.inl (made,(⟨QC,code,text,ask,name,steps⟩,QO))):=by show _=_;rw[<-u.run,show 201 - f.length=(200 - f.length)+1 by omega,bO,<-HT.out,eT rfl]
   obtain⟨rl,r0,r1,r2,rf⟩:=aZ o.kr;have Gp:=rf 0;have Gm:=rf 1;have F0:=rf 2;clear rf;go_wp2_with fail;generalize QM.alloc (T #[QA QC,Q I code,U text,QA ask,U name,Q I steps] 61)=W5 at A5 kt o r0 r1 r2 Gp Gm F0 rl t0 t1 t2 t3 t4 ⊢;refine bp (v:=.tuple #[QE #[Q I code,U text,Z Y 0 0],Z (N (J g7 0 Y)) QO.length c7]) (by simp[results,Tryz.results217,go_sem,r0,r1,r2]) rfl ?_;have QG:w0.heap.size<=w.heap.size+1:=by omega
   have x0:=o.si.setOff o.kr ⟨by decide,by decide,by decide,by decide⟩ QG 0 (Q I code);have y0:=aw o.kr (j:=0) (Q I code);have x1:=x0.setOff y0 ⟨by decide,by decide,by decide,by decide⟩ QG 1 (U text);have y1:=aw y0 (j:=1) (U text);have x2:=x1.setOff y1 ⟨by decide,by decide,by decide,by decide⟩ QG 2 (Z Y 0 0);have At:g7≠w.heap.size+1:=fun e=>by obtain⟨_,_,cs,hc⟩:=af o.r7 g7 rfl;exact absurd (ah (e ▸ hc) o.kr) (by decide)
   rw[GY.out];refine⟨L,md,or,st,g7,c7,rfl,x2,u.rel,az (az (az o.r7 (fun e=>At (H8 e)) _ _) (fun e=>At (H8 e)) _ _) (fun e=>At (H8 e)) _ _,o.ap,u.ext,?_⟩;refine((o.kx.trans (KS.setCell (X:=fun i=>i=w.heap.size+1) W5 QG (Or.inl rfl) (Q I code)) ?_).trans (KS.setCell (X:=fun i=>i=w.heap.size+1) _ QG (Or.inl rfl) (U text)) ?_).trans (KS.setCell (X:=fun i=>i=w.heap.size+1) _ QG (Or.inl rfl) (Z Y 0 0)) ?_;all_goals
    intro i hi h;have e2:i=w.heap.size+1:=h;omega
  | false =>
   have hyl:f.length<200:=by
    rcases FC.out with h | h
    ·exact absurd h.1 (by simp)
    ·exact h.2.1
   have HN:Hid (au name=QC):=by
    rcases FC.out with h | h
    ·exact absurd h.1 (by simp)
    ·exact h.2.2
   cases ask with
   | false =>
    have B:=u.run;rw[show 201 - f.length=(200 - f.length)+1 by omega,bO,<-HT.out,a8 (by simp),eT rfl] at B;obtain⟨QN,sm⟩:∃ QN,QN=fh S name:=⟨_,rfl⟩
    have Gr:=ae sm;simp only at B;rw[<-sm] at B;have NX:=ae B;clear B sm;go_wp2_with fail;clear t0 t1 t2 t3 t4;generalize QM.alloc (T #[QA D,Q I code,U text,QA D,U name,Q I steps] 61)=W5 at A5 kt o ⊢;obtain⟨QH,b0,b1,-⟩:=o.si.box.facts;refine(nL CC W5 name o.si.bel QH b0 b1).mono ?_;rintro e H ⟨he,V⟩;rw[<-Gr.out] at he;subst he;have G:=ae (o.below V lr);have fd:Hid (TBx H QM.heap.size D code text D name steps):=(V.block _ (ai kt)).trans kt;clear V b0 b1 QH;have q:=ae ((Qs H).alloc lr (T #[QA QN,Q I 0,U ⟨#[]⟩] 66));have RA:=ae (own_below G.r6 q lr);have FP:w.heap.size<=H.heap.size:=G.kx.below.size
    go_upto_region 9 with (first
     | (at_builtin;refine bu _ rfl (.tmp 32) (.tmp 35) 59 rfl w.heap.size 66 i6 (QE #[QA D,Q I 0,U ⟨#[]⟩]) 3 32 Tryz.underlying59 Gc FV FX FZ rfl (by decide) (Z (N (J g6 0 Y)) f.length c6) f.length (kZ f) (by simp[Act.eval]) RA.out (J H.heap.size 0 Y) 1 1 [QA QN,Q I 0,U ⟨#[]⟩] (by simp[Act.eval]) rfl (iI H _ _ _ _) (by simp[Value.oneCell']) (by unfold maxLen;omega) (by omega) (by simp<;>omega) ?_;intro v3 s ex R Bk;have O3:=ae ex;have G3:=ae R;clear ex R Bk)
     | fail)
    have n7:Hid (∀ (k:Nat) (cs:Array QB) (t:QF) (fz:Nat × Nat),(H.alloc (T #[QA QN,Q I 0,U ⟨#[]⟩] 66)).heap[k]?=N (Obj.cells cs t fz)->t≠66->s.heap[k]?=(H.alloc (T #[QA QN,Q I 0,U ⟨#[]⟩] 66)).heap[k]?):=fun k cs t fz hk ht=>G3.block k (ai hk) fun e=>by obtain⟨_,_,GQ,Fr⟩:=af RA k e.symm;exact ht (ah hk Fr)
    have ph:Hid (TBx s QM.heap.size D code text D name steps):=by have h0:=(q.block _ (ai fd)).trans fd;exact(n7 _ _ _ _ h0 (by decide)).trans h0
    have FG:Hid (s.ownsRow w.heap.size 242 3 (Z (N (J g7 0 Y)) QO.length c7) QO.length (eY QO)):=bI (own_below G.r7 q lr) fun k hk=>by obtain⟨_,_,cs,hc⟩:=af (own_below G.r7 q lr) k hk;exact n7 _ _ _ _ hc (by decide)
    obtain⟨-,-,-,-,n4⟩:=ph.cells;have GA:=ai ph.out;have A7:=ae ((Qs s).alloc lr (T #[U name,QA D,QA QN] 242));have RS:=ae (own_below FG A7 lr);have GK:w.heap.size<=s.heap.size:=j5 (j5 FP (by simp<;>omega)) G3.size;have DE:=F7.out;obtain⟨O,aq⟩:∃ O,O=QO.length:=⟨_,rfl⟩
    have FS:O<=200:=by omega
    have FE:=ae aq;rw[<-aq] at RS ⊢;clear DE aq
    go_wp2_with (first
     | (at_builtin;refine bu _ rfl (.tmp 37) (.tmp 42) 237 rfl w.heap.size 242 i7 (QE #[U ⟨#[]⟩,QA D,QA D]) 3 24 Tryz.underlying237 Gj Gt F4 Gs rfl (by decide) (Z (N (J g7 0 Y)) O c7) O (eY QO) (by simp[Act.eval]) RS.out (J s.heap.size 0 Y) 1 1 [U name,QA D,QA QN] (by simp[Act.eval]) rfl (iI s _ _ _ _) (by simp[Value.oneCell']) (by unfold maxLen;omega) (by omega) (by simp<;>omega) ?_;intro v4 w4 bt QL mv;have O4:=ae bt;have G4:=ae QL;have FM:=ae mv;clear bt QL mv)
     | fail)
    obtain⟨Fy,Fv,Fx,Fu,e6,e7,FO⟩:=G.more (r:=⟨QN,0,⟨#[]⟩⟩) (l:=⟨name,D,QN⟩) ld q O3 G3 A7 (by rw[<-FE.out];exact O4) G4 FM;have QP:(f++[(⟨QN,0,⟨#[]⟩⟩:aA)]).length=f.length+1:=by simp
    have FI:Hid (SR w0 S hb (Z a0 S.n0 c0) (Z a1 S.n1 c1) w n making tg (Z (N (J K M Y)) (S.f1 tg).actN A) L0 R0 w4 (f++[⟨QN,0,⟨#[]⟩⟩]) (QO++[⟨name,D,QN⟩]) made L md or st Fy Fv Fx Fu) :=
     ⟨FO,u.rel,u.pg,(u.rg.add (by rw[Gr.out];exact jS _ _) HN (fun h=>by cases h)),(by rw[QP,show 201 - (f.length+1)=200 - f.length by omega];exact(by have:=u.room;unfold eJ at this ⊢;omega)),(by rw[QP,show 201 - (f.length+1)=200 - f.length by omega];exact NX),(by rw[QP];omega),u.ext⟩
    obtain⟨g,rfl⟩:∃ g,gk=g+1:=⟨gk - 1,by omega⟩
    go_roundg g;case measure=>omega
    case rel=>exact⟨_,_,_,_,_,_,_,_,_,_,_,e6,e7,FI,by rw[QP];omega⟩
   | true =>
    have B:=u.run;rw[show 201 - f.length=(200 - f.length)+1 by omega,bO,<-HT.out,a8 (by simp),a8 (by simp)] at B;simp only at B;go_wp2_with fail;clear t0 t1 t2 t3 t4;generalize QM.alloc (T #[QA D,Q I code,U text,QA QC,U name,Q I steps] 61)=W5 at A5 kt o ⊢;refine(GO making made L md or st W5 name Gv o.si u.rel u.pg (by have:=u.room;unfold eJ at this ⊢;omega) Gz HN).mono ?_;intro e H QJ;have HQ:(∃ QQ x,aL S n making made name=.inl (QQ,x))∨∃ (r:ResL) (va:Option Addr) (vn vk:Nat),e=QD (gK r (Z va vn vk))/\ij w0 hb H r (Z va vn vk)/\KS w0.heap.size XN W5 H/\Hid (∀ vs w',ij w0 hb w' r (Z va vn vk)->KS w0.heap.size XN w w'->nN w0 hb (Z a0 S.n0 c0) (Z a1 S.n1 c1) making L0 w (QD (.tuple #[gK r (Z va vn vk),vs])) w' R0):=by
     rcases hr:aL S n making made name with ⟨QQ,x⟩ | c | d
     ·exact .inl ⟨_,_,rfl⟩
     all_goals
      rw[hr] at QJ B;dsimp only at B;subst B
     ·obtain⟨ca,ck,rfl,hd,hK⟩:=QJ
      exact .inr ⟨_,_,_,_,rfl,hd,hK,fun vs w' h1 h2=>⟨ca,ck,vs,rfl,h1,h2⟩⟩
     ·obtain⟨rfl,hd,hK⟩:=QJ
      exact .inr ⟨_,_,_,_,rfl,hd,hK,fun vs w' h1 h2=>⟨vs,rfl,h1,h2⟩⟩
    rcases HQ with ⟨QQ,x,hr⟩ | ⟨r,va,vn,vk,rfl,⟨q0,q1,qm,qo,qs,Fm,FU⟩,hK,fin⟩
    ·rw[hr] at QJ B
     dsimp only at B;obtain⟨L2,GH,GN,GU,rfl,Gn,FF,Fz,hK⟩:=QJ;obtain⟨Fl,⟨more,Fs⟩,hx,Fw⟩:=cP CC.ok n making made name QQ x u.pg HN hr;have Fk:=gj S n making made name QQ x hr;have FA:∀ y∈made,y∈QQ:=fun y hy=>by rw[Fs];exact IJ _ hy
     have FJ:=ae (o.step hK Gn Fz);have GF:=ae FF;have GL:=ae Fl;have FT:Hid (RG S QQ (f++[fg x]) (QO++[⟨name,QC,D⟩])):=(u.rg.mono FA).add (iO (Fl.ents x hx)) HN (fun _=>⟨x,hx,Fw⟩);have GV:Hid (eJ S making QQ (200 - f.length)):=by have:=u.room;unfold eJ at this ⊢;unfold fq at Fk;show _<=_;omega
     have GP:=ae (u.ext.trans Fz o.kx.below.size);have DA:Hid (TBx H QM.heap.size D code text QC name steps):=(hK.blk _ _ _ _ kt (by decide) (by decide) (by decide) fun h=>h).trans kt;have NX:=ae B;obtain⟨rc,rt,ob,oc,ot,Gi,Gg,Gu⟩:=Bo (Fl.ents x hx);rw[Gg] at FT NX;have hz25:W5.heap.size<=H.heap.size:=hK.below.size;have hg65:g6<W5.heap.size:=(af o.r6 g6 rfl).2.1;have hw25:w.heap.size+2<=W5.heap.size:=ai o.kr;rw[Fw] at Gu;simp only[Gi];clear Gn FF Fz hK Fl Fs hx Fw Fk FA hr B Gi Gg;have q:=ae ((Qs H).alloc lr (T #[Q I rc,U rt,Z Y 0 0] 41));have FH:Hid ((H.alloc (T #[Q I rc,U rt,Z Y 0 0] 41)).heap[H.heap.size]?=N (T #[Q I rc,U rt,Z Y 0 0] 41 (0,0))):=eL _ _;obtain⟨QH,-,-,-,-,-,-,-,-,b8,-⟩:=FJ.si.box.facts;have d8:=(q.cell (p:=(J hb 8 Y)) QH).trans b8;obtain⟨rl,r0,r1,-,-⟩:=aZ FH;go_upto_region 13 with fail;clear d8 b8;generalize H.alloc (T #[Q I rc,U rt,Z Y 0 0] 41)=W6 at q FH r0 r1 rl ⊢;have A7:=ae ((Qs W6).alloc lr (T #[QA QC,Q I rc,U rt] 66));have ky:Hid ((W6.alloc (T #[QA QC,Q I rc,U rt] 66)).heap[W6.heap.size]?=N (T #[QA QC,Q I rc,U rt] 66 (0,0))):=eL _ _;go_upto_region 14 with fail;generalize W6.alloc (T #[QA QC,Q I rc,U rt] 66)=W8 at A7 ky ⊢;have Gd:=ae (q.trans (A7.mono q.size));have n8:=ae (FJ.below Gd lr);have qr:Hid (TBx W8 QM.heap.size D code text QC name steps):=(Gd.block _ (ai DA)).trans DA;have r7:=(A7.cell (p:=(J H.heap.size 0 Y)) rl).trans r0;have ro:H.heap.size<W8.heap.size:=ll rl A7.size;obtain⟨-,-,-,-,tn⟩:=qr.cells;have n6:=ai qr.out;obtain⟨P,Gl⟩:∃ P,P=W6.heap.size:=⟨_,rfl⟩
     rw[<-Gl] at ky ⊢;have DQ:w.heap.size+2<=P:=by have:=q.size;omega
     have th:P≠g6:=by have:=q.size;omega
     clear Gl FJ DA A7 q FH r0 r1;obtain⟨la,b0,b1,-⟩:=n8.si.box.facts;rcases Gu with ⟨FQ,e4,e3⟩ | ⟨FQ,e3⟩
     case' inr=>by_cases h4:rc=4;all_goals
      have Gb:=ae FQ;have E3:=ae e3;clear FQ e3
     case' inl =>
      subst e4;go_wp2_with fail;refine(nL CC W8 name n8.si.bel la b0 b1).mono ?_;rintro e s ⟨he,V⟩;rw[Gb.out] at he;subst he;have GI:=ae (n8.below V lr);have FW:Hid (TBx s QM.heap.size D code text QC name steps):=(V.block _ n6).trans qr;have Fh:=(V.block _ (ai ky)).trans ky;obtain⟨yl,y0,y1,y2,yf⟩:=aZ Fh;have Gx:=yf 0;have GE:=yf 1;have GT:=yf 2;have x0:=GI.setOff Fh ⟨by decide,by decide,by decide,by decide⟩ ld DQ th 0 (QA D);have x1:=x0.1.setOff x0.2 ⟨by decide,by decide,by decide,by decide⟩ ld DQ th 1 (Q I 0);have x2:=x1.1.setOff x1.2 ⟨by decide,by decide,by decide,by decide⟩ ld DQ th 2 (U ⟨#[]⟩);have G:=ae x2.1;have FL:QM.heap.size≠P:=fun e=>absurd (ah (show s.heap[QM.heap.size]?=_ from FW.out) (e ▸ Fh)) (by decide);have fd:Hid (TBx (((s.setCell (J P 0 Y) (QA D)).setCell (J P 1 Y) (Q I 0)).setCell (J P 2 Y) (U ⟨#[]⟩)) QM.heap.size D code text QC name steps):=(qh _ _ _ _ FL).trans ((qh _ _ _ _ FL).trans ((qh _ _ _ _ FL).trans FW));have KY:Hid ((((s.setCell (J P 0 Y) (QA D)).setCell (J P 1 Y) (Q I 0)).setCell (J P 2 Y) (U ⟨#[]⟩)).heap[P]?=N (T #[QA ob,Q I oc,U ot] 66 (0,0))):=by rw[E3.1,E3.2.1,E3.2.2];exact x2.2
      clear x0 x1 x2 V tn b0 b1 la r7 ro n6 rl Fh;go_upto_region 16 with fail;clear y0 y1 y2 Gx GE GT yl;generalize ((s.setCell (J P 0 Y) (QA D)).setCell (J P 1 Y) (Q I 0)).setCell (J P 2 Y) (U ⟨#[]⟩)=W8 at G KY fd ⊢
     case' pos =>
      subst h4;go_wp2_with fail;refine(nL CC W8 name n8.si.bel la b0 b1).mono ?_;rintro e s ⟨he,V⟩;rw[Gb.out] at he;subst he;have G:=ae (n8.below V lr);have fd:Hid (TBx s QM.heap.size D code text QC name steps):=(V.block _ n6).trans qr;have KY:Hid (s.heap[P]?=N (T #[QA ob,Q I oc,U ot] 66 (0,0))):=by rw[E3.1,E3.2.1,E3.2.2];exact(V.block _ (ai ky)).trans ky
      clear V tn b0 b1 la r7 ro n6 rl;go_upto_region 16 with fail;generalize s=W8 at G KY fd ⊢
     case' neg =>
      have h4b:(rc == 4)=D:=by simpa using h4
      have G:=n8;have fd:=qr;have KY:Hid (W8.heap[P]?=N (T #[QA ob,Q I oc,U ot] 66 (0,0))):=by rw[E3.1,E3.2.1,E3.2.2];exact ky
      go_upto_region 16 with fail;clear tn b0 b1 la r7 ro n6 rl
     all_goals
      obtain⟨yl,y0,y1,y2,-⟩:=aZ KY;have q:=ae ((Qs W8).alloc lr (T #[QA ob,Q I oc,U ot] 66));have RA:=ae (own_below G.r6 q lr);have FP:w.heap.size<=W8.heap.size:=G.kx.below.size
      go_upto_region 17 with (first
       | (at_builtin;refine bu _ rfl (.tmp 73) (.tmp 75) 59 rfl w.heap.size 66 i6 (QE #[QA D,Q I 0,U ⟨#[]⟩]) 3 32 Tryz.underlying59 Gc FV FX FZ rfl (by decide) (Z (N (J g6 0 Y)) f.length c6) f.length (kZ f) (by simp[Act.eval]) RA.out (J W8.heap.size 0 Y) 1 1 [QA ob,Q I oc,U ot] (by simp[Act.eval]) rfl (iI W8 _ _ _ _) (by simp[Value.oneCell']) (by unfold maxLen;omega) (by omega) (by simp<;>omega) ?_;intro v3 s ex R Bk;have O3:=ae ex;have G3:=ae R;clear ex R Bk)
       | fail)
      have n7:Hid (∀ (k:Nat) (cs:Array QB) (t:QF) (fz:Nat × Nat),(W8.alloc (T #[QA ob,Q I oc,U ot] 66)).heap[k]?=N (Obj.cells cs t fz)->t≠66->s.heap[k]?=(W8.alloc (T #[QA ob,Q I oc,U ot] 66)).heap[k]?):=fun k cs t fz hk ht=>G3.block k (ai hk) fun e=>by obtain⟨_,_,GQ,Fr⟩:=af RA k e.symm;exact ht (ah hk Fr)
      have ph:Hid (TBx s QM.heap.size D code text QC name steps):=by have h0:=(q.block _ (ai fd)).trans fd;exact(n7 _ _ _ _ h0 (by decide)).trans h0
      have FG:Hid (s.ownsRow w.heap.size 242 3 (Z (N (J g7 0 Y)) QO.length c7) QO.length (eY QO)):=bI (own_below G.r7 q lr) fun k hk=>by obtain⟨_,_,cs,hc⟩:=af (own_below G.r7 q lr) k hk;exact n7 _ _ _ _ hc (by decide)
      obtain⟨-,-,-,-,n4⟩:=ph.cells;have GA:=ai ph.out;have A7:=ae ((Qs s).alloc lr (T #[U name,QA QC,QA D] 242));have RS:=ae (own_below FG A7 lr);have GK:w.heap.size<=s.heap.size:=j5 (j5 FP (by simp<;>omega)) G3.size;have DE:=F7.out;obtain⟨O,aq⟩:∃ O,O=QO.length:=⟨_,rfl⟩
      have FS:O<=200:=by omega
      have FE:=ae aq;rw[<-aq] at RS ⊢;clear DE aq
      go_wp2_with (first
       | (at_builtin;refine bu _ rfl (.tmp 77) (.tmp 81) 237 rfl w.heap.size 242 i7 (QE #[U ⟨#[]⟩,QA D,QA D]) 3 24 Tryz.underlying237 Gj Gt F4 Gs rfl (by decide) (Z (N (J g7 0 Y)) O c7) O (eY QO) (by simp[Act.eval]) RS.out (J s.heap.size 0 Y) 1 1 [U name,QA QC,QA D] (by simp[Act.eval]) rfl (iI s _ _ _ _) (by simp[Value.oneCell']) (by unfold maxLen;omega) (by omega) (by simp<;>omega) ?_;intro v4 w4 bt QL mv;have O4:=ae bt;have G4:=ae QL;have FM:=ae mv;clear bt QL mv)
       | fail)
      obtain⟨Fy,Fv,Fx,Fu,e6,e7,FO⟩:=G.more (r:=⟨ob,oc,ot⟩) (l:=⟨name,QC,D⟩) ld q O3 G3 A7 (by rw[<-FE.out];exact O4) G4 FM;have QP:(f++[(⟨ob,oc,ot⟩:aA)]).length=f.length+1:=by simp
      have FI:Hid (SR w0 S hb (Z a0 S.n0 c0) (Z a1 S.n1 c1) w n making tg (Z (N (J K M Y)) (S.f1 tg).actN A) L0 R0 w4 (f++[⟨ob,oc,ot⟩]) (QO++[⟨name,QC,D⟩]) QQ L2 GH GN GU Fy Fv Fx Fu) :=
       ⟨FO,GF,GL,FT,(by rw[QP,show 201 - (f.length+1)=200 - f.length by omega];exact GV),(by rw[QP,show 201 - (f.length+1)=200 - f.length by omega];exact NX),(by rw[QP];omega),GP⟩
      obtain⟨g,rfl⟩:∃ g,gk=g+1:=⟨gk - 1,by omega⟩
      go_roundg g;case measure=>omega
      case rel=>exact⟨_,_,_,_,_,_,_,_,_,_,_,e6,e7,FI,by rw[QP];omega⟩
    ·clear QJ B
     obtain⟨QH,-,-,-,-,-,b5,b6,b7,b8,-⟩:=Fm.facts;have Fq:=(hK.blk _ _ _ _ o.kr (by decide) (by decide) (by decide) fun h=>h).trans o.kr;have KW:=ae (o.kx.to hK);have GW:=ae Fm;have Gq:=ae FU;have q:=ae ((Qs H).alloc lr (T #[Q I r.code,U r.text,Z va vn vk] 41));have FN:=(q.block _ (ai Fq)).trans Fq;obtain⟨rl,r0,r1,r2,rf⟩:=aZ FN;have d5:=(q.cell (p:=(J hb 5 Y)) QH).trans b5;have d6:=(q.cell (p:=(J hb 6 Y)) QH).trans b6;have d7:=(q.cell (p:=(J hb 7 Y)) QH).trans b7;have d8:=(q.cell (p:=(J hb 8 Y)) QH).trans b8;have Gp:=rf 0;have Gm:=rf 1;have F0:=rf 2;have ur:hb≠w.heap.size+1:=fun e=>absurd (ah (e ▸ Fm) Fq) (by decide);have Gy:=ae FN;clear rf Fm FU hK b5 b6 b7 b8 Fq FN;simp only[gK];go_wp2_with fail;refine bp (v:=.tuple #[gK r (Z va vn vk),Z (N (J g7 0 Y)) QO.length c7]) (by simp[results,Tryz.results217,go_sem,r0,r1,r2,gK]) rfl ?_;have QG:w0.heap.size<=w.heap.size+1:=by omega
     have Gw:∀ (W:E) (v0 v1 v2:QB),(((W.setCell (J (w.heap.size+1) 0 Y) v0).setCell (J (w.heap.size+1) 1 Y) v1).setCell (J (w.heap.size+1) 2 Y) v2).heap[hb]?=W.heap[hb]?:=fun W v0 v1 v2=>(qh _ _ _ _ ur).trans ((qh _ _ _ _ ur).trans (qh _ _ _ _ ur));have FD:∀ k,(Value.slice va vn vk).ownBlock=N k->k≠w.heap.size+1:=fun k hk e=>by obtain⟨_,_,cs,hc⟩:=af (own_below Gq q lr) k hk;exact absurd (ah (e ▸ hc) Gy) (by decide)
     refine fin (Z (N (J g7 0 Y)) QO.length c7) _ ⟨q0,q1,qm,qo,qs,(Gw _ _ _ _).trans ((q.block _ QH).trans GW),az (az (az (own_below Gq q lr) (fun e=>FD _ e rfl) _ _) (fun e=>FD _ e rfl) _ _) (fun e=>FD _ e rfl) _ _⟩ ?_;refine((((KW.to (KS.of_below q lr (j5 ld KW.below.size))).trans (KS.setCell (X:=fun i=>i=w.heap.size+1) _ QG (Or.inl rfl) _) ?_).trans (KS.setCell (X:=fun i=>i=w.heap.size+1) _ QG (Or.inl rfl) _) ?_).trans (KS.setCell (X:=fun i=>i=w.heap.size+1) _ QG (Or.inl rfl) _) ?_);all_goals
      intro i hi h;have e2:i=w.heap.size+1:=h;omega
end
end Go.Proofs.YtkdimgejdocbbaaGreatDoor.Vp
