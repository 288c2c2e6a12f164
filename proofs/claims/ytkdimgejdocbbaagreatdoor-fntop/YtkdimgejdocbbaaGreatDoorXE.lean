import Derived.Test.YtkdimgejdocbbaaGreatDoorXC
import Derived.Test.YtkdimgejdocbbaaGreatDoorYR
import Derived.Deep.Cut
set_option maxRecDepth 1000000
set_option maxHeartbeats 8000000
open Go.Addr renaming mk->J
open Go.Value renaming slice->Y,string->U,int->N,bool->QA,agg->QE
open Option renaming none->Z,some->Q
open Go.Obj renaming cells->T
open Go.IntKind renaming i64->I
open Go renaming World->E,Value->QB,TypeId->QF
open Bool renaming false->D,true->QC
open Go.Ending renaming returned->QD
namespace Go.Proofs.YtkdimgejdocbbaaGreatDoor.Vp
open RowKit
structure SB (w0:E)(hb:Nat)(s0 s1:QB)(w:E)(making:List ByteArray)(pv:QB)(wr:E)(ys:List aA)(ls:List Lk)(made:List Ent)(L:List SM)(md or st:QB)(g6 c6 g7 c7:Nat):Prop where
 si:SI w0 hb s0 s1 wr making made L md or st
 r6:wr.ownsRow w.heap.size 66 3 (Y (Q (J g6 0 Z)) ys.length c6) ys.length (kZ ys)
 r7:wr.ownsRow w.heap.size 242 3 (Y (Q (J g7 0 Z)) ls.length c7) ls.length (eY ls)
 ap:∀ m∈L,m.done=QC->m.sv.ownBlock≠Q g7
 kp:wr.heap[w.heap.size]?=Q (T #[pv] 31 (0,0))
 kr:wr.heap[w.heap.size+1]?=Q (T #[N I 0,U ⟨#[]⟩,Y Z 0 0] 41 (0,0))
 kx:KS w0.heap.size XN w wr
structure SR (w0:E)(S:Spc)(hb:Nat)(s0 s1:QB)(w:E)(n:Nat)(making:List ByteArray)(tg:Nat)(pv:QB)(L0:List SM)(R0:Out (Turn × List Lk))(wr:E)(ys:List aA)(ls:List Lk)(made:List Ent)(L:List SM)(md or st:QB)(g6 c6 g7 c7:Nat):Prop where
 sb:SB w0 hb s0 s1 w making pv wr ys ls made L md or st g6 c6 g7 c7
 rel:fE L making made
 pg:PG S making made
 rg:RG S made ys ls
 room:eJ S making made (201 - ys.length)
 run:bO S (aL S n making) tg (201 - ys.length) made ys ls=R0
 le:ys.length<=200
 ext:LExt w.heap.size L0 L
def TBx (w:E)(g:Nat)(over:Bool)(code:Int)(text:ByteArray)(ask:Bool)(name:ByteArray)(steps:Int):Prop:=w.heap[g]?=Q (T #[QA over,N I code,U text,QA ask,U name,N I steps] 61 (0,0))
theorem TBx.cells {w:E}{g:Nat}{over:Bool}{code:Int}{text:ByteArray}{ask:Bool}{name:ByteArray}{steps:Int}(h:TBx w g over code text ask name steps):w.cell? (J g 0 Z)=Q (QA over)/\w.cell? (J g 1 Z)=Q (N I code)/\w.cell? (J g 2 Z)=Q (U text)/\w.cell? (J g 3 Z)=Q (QA ask)/\w.cell? (J g 4 Z)=Q (U name):=by unfold TBx at h;refine⟨?_,?_,?_,?_,?_⟩;all_goals simp[World.cell?,h]
def nN (w0:E)(hb:Nat)(s0 s1:QB)(making:List ByteArray)(L:List SM)(w:E)(e:Ending)(w':E):Out (Turn × List Lk)->Prop
 | .inl (made',x)=>∃ b i f h g c,e=QD (.tuple #[QE #[N I x.1.code,U x.1.text,Y Z 0 0],Y (Q (J g 0 Z)) x.2.length c])/\SI w0 hb s0 s1 w' making made' b i f h/\fE b making made'/\w'.ownsRow w.heap.size 242 3 (Y (Q (J g 0 Z)) x.2.length c) x.2.length (eY x.2)/\(∀ m∈b,m.done=QC->m.sv.ownBlock≠Q g)/\LExt w.heap.size L b/\KS w0.heap.size XN w w'
 | .inr (.inl c)=>∃ a k sv,e=QD (.tuple #[gK (jw c) (Y a c.length k),sv])/\ij w0 hb w' (jw c) (Y a c.length k)/\KS w0.heap.size XN w w'
 | .inr (.inr d)=>∃ sv,e=QD (.tuple #[gK (jx d) (Y Z 0 0),sv])/\ij w0 hb w' (jx d) (Y Z 0 0)/\KS w0.heap.size XN w w'
theorem iI (w:E)(f d g:QB)(t:QF):∀ j u,[f,d,g][j]?=Q u->(w.alloc (T #[f,d,g] t)).cell? (((J w.heap.size 0 Z):Addr).add j)=Q u:=by
 intro j u h;rw[addr_add];have hj:j<3:=by
  rcases IW j 3 with b | b
  ·exact b
  ·rw[IP (by simp;omega)] at h;cases h
 rcases(show j=0∨j=1∨j=2 by omega) with rfl | rfl | rfl;all_goals
  simp at h;subst h;simp
theorem aZ {w:E}{b:Nat}{f d g:QB}{t:QF}(h:w.heap[b]?=Q (T #[f,d,g] t (0,0))):b<w.heap.size/\w.cell? (J b 0 Z)=Q f/\w.cell? (J b 1 Z)=Q d/\w.cell? (J b 2 Z)=Q g/\∀ j,w.frozen? (J b j Z)=D:=by refine⟨ai h,?_,?_,?_,fun j=>?_⟩;all_goals simp[World.cell?,World.frozen?,h]
section
variable {w0 w w':E}{hb:Nat}{s0 s1 md or st:QB}{making:List ByteArray}{made:List Ent}{L:List SM}
theorem SI.grown {v:QB}{g size n:Nat}{e:QF}{B:List QB}(h:SI w0 hb s0 s1 w making made L md or st)(b:w.grownBy w' v.ownBlock)(QQ:w.ownsRow g e size v n B)(hB:w0.heap.size<=g)(q:e≠9/\e≠239/\e≠132)(QP:∀ m∈L,m.done=QC->∀ k,v.ownBlock=Q k->m.sv.ownBlock≠Q k):SI w0 hb s0 s1 w' making made L md or st:=by
 have A:=af QQ;have r:∀ (i:Nat) (o:Array QB) (t:QF) (fz:Nat × Nat),w.heap[i]?=Q (Obj.cells o t fz)->t≠e->w'.heap[i]?=w.heap[i]?:=fun i o t fz hi l=>b.block i (ai hi) fun j=>by obtain⟨_,_,cs2,p⟩:=A i j.symm;exact l (ah hi p)
 have d:∀ {size n:Nat} {t:QF} {u:QB} {y:List QB},w.ownsRow w0.heap.size t size u n y->t≠e->w'.ownsRow w0.heap.size t size u n y:=fun z l=>bI z fun k f=>by obtain⟨_,_,o,p⟩:=af z k f;exact r _ _ _ _ p l
 refine⟨h.bel.trans ⟨b.os,b.tape,b.output,b.size,fun k f=>b.block k (ll f h.lt) fun j=>?_⟩,h.hbB,h.box.blk (r _ _ _ _ h.box q.2.2.symm),d h.rmd q.2.1.symm,d h.ror q.1.symm,d h.rst q.1.symm,h.apart,fun m x s=>bI (h.seen m x s) fun k f=>?_⟩
 ·have:=(A k j.symm).1
  omega
 ·obtain⟨_,C,o,p⟩:=af (h.seen m x s) k f
  exact b.block k C fun j=>QP m x s k j.symm f
theorem KS.grow {v:QB}{b size n:Nat}{e:QF}{k:List QB}{W:E}{B:Nat}(h:KS B XN W w)(l:w.grownBy w' v.ownBlock)(d:w.ownsRow b e size v n k)(o:W.heap.size<=b)(g:B<=W.heap.size):KS B XN W w' :=
 h.trans (QG:=fun i=>v.ownBlock=Q i) (KS.of_grown l (j5 g h.below.size) fun j f=>⟨j5 (j5 g o) (af d j f).1,.inl f⟩) fun i hi m=>by have:=(af d i m).1;omega
theorem SB.below {W wr f:E}{m:QB}{n:List aA}{g:List Lk}{i k j l C:Nat}(h:SB w0 hb s0 s1 W making m wr n g made L md or st i k j l)(b:Below C wr f)(d:wr.heap.size<=C):SB w0 hb s0 s1 W making m f n g made L md or st i k j l :=
 ⟨h.si.below b d,own_below h.r6 b d,own_below h.r7 b d,h.ap,(b.block _ (ll (ai h.kp) d)).trans h.kp,(b.block _ (ll (ai h.kr) d)).trans h.kr,h.kx.to (KS.of_below b d h.si.lt)⟩
theorem SB.more {W V O G H R:E}{pv v3 M:QB}{i:List aA}{f:List Lk}{u QK g QM:Nat}{r:aA}{l:Lk}(h:SB w0 hb s0 s1 W making pv V i f made L md or st u QK g QM)(K:w0.heap.size<=W.heap.size)
  (b3:Below V.heap.size V O) (QJ:G.ownsRow W.heap.size 66 3 v3 (i.length+1) (kZ i++[QA r.has,N I r.code,U r.text])) (QO:O.grownBy G (Q u))
  (p:Below G.heap.size G H) (o4:R.ownsRow W.heap.size 242 3 M (f.length+1) (eY f++[U l.name,QA l.ask,QA l.has])) (B:H.grownBy R (Q g)) (QN:M.ownBlock=Q g∨M.ownBlock=Q H.heap.size) :
  ∃ s t d q,v3=Y (Q (J s 0 Z)) (i++[r]).length t/\M=Y (Q (J d 0 Z)) (f++[l]).length q/\SB w0 hb s0 s1 W making pv R (i++[r]) (f++[l]) made L md or st s t d q:=by
 have b:=h.below b3 lr;have QH:W.heap.size<O.heap.size:=ai b.kp;have X:W.heap.size+1<O.heap.size:=ai b.kr;have aq:=af b.r6 u rfl;obtain⟨hg6,hg6l,cs6,j⟩:=aq
 have s3:=b.si.grown (v:=Y (Q (J u 0 Z)) i.length QK) QO b.r6 K ⟨by decide,by decide,by decide⟩ (fun m z y k n e=>by
  cases n
  obtain⟨_,_,cs,C⟩:=af (b.si.seen m z y) u e
  exact absurd (ah j C) (by decide))
 have k3:=KS.grow (v:=Y (Q (J u 0 Z)) i.length QK) b.kx QO b.r6 lr K;have bt:G.ownsRow W.heap.size 242 3 (Y (Q (J g 0 Z)) f.length QM) f.length (eY f):=bI b.r7 fun k n=>by obtain⟨_,S,cs,C⟩:=af b.r7 k n;exact QO.block k S fun e=>by cases e;exact absurd (ah j C) (by decide)
 have P:=(QO.block W.heap.size QH fun e=>by cases e;exact absurd (ah j b.kp) (by decide)).trans b.kp;have QL:=(QO.block (W.heap.size+1) X fun e=>by have x:=FB e;exact absurd (ah j (x ▸ b.kr)) (by decide)).trans b.kr;obtain⟨s,t,cu6,rfl,-⟩:=QJ.2.resolve_left (fun h=>by omega);have s4:=s3.below p lr;have A:=own_below bt p lr;obtain⟨hg7,hg7l,cs7,o⟩:=af A g rfl;have QP:=(p.block W.heap.size (ai P)).trans P;have QQ:=(p.block (W.heap.size+1) (ai QL)).trans QL;have s5:=s4.grown (v:=Y (Q (J g 0 Z)) f.length QM) B A K ⟨by decide,by decide,by decide⟩ (fun m z y k n e=>by cases n;exact h.ap m z y e);have k5:=KS.grow (v:=Y (Q (J g 0 Z)) f.length QM) (k3.to (KS.of_below p lr s3.lt)) B A lr K;obtain⟨d,q,cu7,rfl,-⟩:=o4.2.resolve_left (fun h=>by omega);have QG:(i++[r]).length=i.length+1:=by simp
 have e7:(f++[l]).length=f.length+1:=by simp
 refine⟨s,t,d,q,by rw[QG],by rw[e7],s5,?_,?_,fun m z y e=>?_,?_,?_,k5⟩
 ·rw[QG,Bd]
  refine bI (own_below QJ p lr) fun k n=>?_;obtain⟨_,S,cs,C⟩:=af (own_below QJ p lr) k n;exact B.block k S fun e=>by cases e;exact absurd (ah o C) (by decide)
 ·rw[e7,yS]
  exact o4
 ·rcases QN with QN | QN
  ·have x:d=g:=FB (show Q d=Q g from QN)
   exact h.ap m z y (x ▸ e)
  ·have x:d=H.heap.size:=FB (show Q d=Q H.heap.size from QN)
   have:=(af (s4.seen m z y) _ e).2.1;omega
 ·exact(B.block W.heap.size (ai QP) fun e=>by cases e;exact absurd (ah o QP) (by decide)).trans QP
 ·exact(B.block (W.heap.size+1) (ai QQ) fun e=>by have x:=FB e;exact absurd (ah o (x ▸ QQ)) (by decide)).trans QQ
theorem SI.setOff {b:Nat}{q:Array QB}{t:QF}{fz:Nat × Nat}(h:SI w0 hb s0 s1 w making made L md or st)(g:w.heap[b]?=Q (T q t fz))(f:t≠9/\t≠239/\t≠132/\t≠242)(s:w0.heap.size<=b)(j:Nat)(u:QB):SI w0 hb s0 s1 (w.setCell (J b j Z) u) making made L md or st:=by
 have d:∀ {size n:Nat} {i:QF} {p:QB} {k:List QB},w.ownsRow w0.heap.size i size p n k->t≠i->(w.setCell (J b j Z) u).ownsRow w0.heap.size i size p n k:=fun l o=>az l (fun e=>by
  obtain⟨_,_,cs2,x⟩:=af l b e
  exact o (ah g x)) _ _
 refine⟨h.bel.setCell s u,h.hbB,h.box.blk (qh _ _ _ _ fun e=>?_),d h.rmd f.2.1,d h.ror f.1,d h.rst f.1,h.apart,fun m y r=>d (h.seen m y r) f.2.2.2⟩;simp at e;subst e;exact f.2.2.1 (ah g h.box)
theorem SB.step {W wr p:E}{r i f g:QB}{s:List aA}{u:List Lk}{y q l t:Nat}{b:List Ent}{o:List SM}(h:SB w0 hb s0 s1 W making r wr s u made L md or st y q l t)(d:KS w0.heap.size XN wr p)(QQ:SI w0 hb s0 s1 p making b o i f g)(B:LExt wr.heap.size L o):SB w0 hb s0 s1 W making r p s u b o i f g y q l t:=by
 refine⟨QQ,bI h.r6 fun k j=>?_,bI h.r7 fun k j=>?_,fun m QP A e=>?_,(d.blk _ _ _ _ h.kp (by decide) (by decide) (by decide) fun h=>h).trans h.kp,(d.blk _ _ _ _ h.kr (by decide) (by decide) (by decide) fun h=>h).trans h.kr,h.kx.to d⟩
 ·obtain⟨_,_,z,n⟩:=af h.r6 k j
  exact d.blk _ _ _ _ n (by decide) (by decide) (by decide) fun h=>h
 ·obtain⟨_,_,z,n⟩:=af h.r7 k j
  exact d.blk _ _ _ _ n (by decide) (by decide) (by decide) fun h=>h
 ·rcases B.sn m QP A with ⟨m0,C,x,G⟩ | h1
  ·exact h.ap m0 C x (by rw[G];exact e)
  ·have h2:=h1 _ e
   have h3:=(af h.r7 l rfl).2.1;omega
theorem SB.setOff {W wr:E}{n:QB}{o:List aA}{q:List Lk}{f m l p b:Nat}{g:Array QB}{t:QF}(h:SB w0 hb s0 s1 W making n wr o q made L md or st f m l p)(d:wr.heap[b]?=Q (T g t (0,0)))(k:t≠9/\t≠239/\t≠132/\t≠242)(hB:w0.heap.size<=W.heap.size)(hb1:W.heap.size+2<=b)(r:b≠f)(j:Nat)(u:QB):SB w0 hb s0 s1 W making n (wr.setCell (J b j Z) u) o q made L md or st f m l p/\(wr.setCell (J b j Z) u).heap[b]?=Q (T (g.setIfInBounds j u) t (0,0)):=by refine⟨⟨h.si.setOff d k (by omega) j u,az h.r6 (fun e=>r (FB e).symm) _ _,az h.r7 (fun e=>?_) _ _,h.ap,(qh _ _ _ _ (show W.heap.size≠b by omega)).trans h.kp,(qh _ _ _ _ (show W.heap.size+1≠b by omega)).trans h.kr,h.kx.trans (KS.setCell (X:=fun i=>i=b) _ (by omega) (Or.inl rfl) u) fun i hi x=>by have e2:i=b:=x;omega⟩,aw d u⟩;obtain⟨_,_,cs2,s⟩:=af h.r7 b e;exact k.2.2.2 (ah d s)
theorem Bo {S:Spc}{x:Ent}(h:EG S x):∃ f k g j d,cR x=⟨f,k,[]⟩/\fg x=⟨g,j,d⟩/\(fh S x.name=D/\f=4/\g=D/\j=0/\d=⟨#[]⟩∨fh S x.name=QC/\g=QC/\j=f/\d=k):=by
 unfold cR fg fh;rw[ii,ii];rcases h.kind with ⟨b,_,_,i,hi,_⟩ | ⟨b,m,l,_,n,h1⟩ | ⟨b,_,h1⟩
 ·exact⟨x.code,x.text,QC,x.code,x.text,by rw[a8 (by omega)],by simp[b],.inr ⟨by rw[hi];rfl,rfl,rfl,rfl⟩⟩
 ·exact⟨4,x.name,D,0,⟨#[]⟩,by rw[eT b],by simp[b,m,l],.inl ⟨by rw[n,h1];rfl,rfl,rfl,rfl,rfl⟩⟩
 ·exact⟨x.code,x.text,QC,x.code,x.text,by rw[a8 (by omega)],by simp[b],.inr ⟨by rw[h1];simp,rfl,rfl,rfl⟩⟩
end
section
variable {w0:E}{S:Spc}{a0 a1:Option Addr}{c0 c1 hb:Nat}{making:List ByteArray}
theorem Bp (C:kX w0 S a0 a1)(n:Nat)(HK:mu w0 S hb (Y a0 S.n0 c0) (Y a1 S.n1 c1) n)(z:List Ent)(L0:List SM)(Fs Fh Fm:QB)(w:E)(a:Option Addr)(A tg:Nat)(Gv:making.length+n=60)(h:SI w0 hb (Y a0 S.n0 c0) (Y a1 S.n1 c1) w making z L0 Fs Fh Fm)(hrel:fE L0 making z)(hp:PG S making z)(Fr:eJ S making z 201)(FY:MT S making)(Fi:tg<S.n1)(Gm:SlIns w0 a (S.f1 tg).actN (S.f1 tg).act):Calls Tryz.prog 217 #[.pointer (Q (J hb 0 Z)),QE #[Y a (S.f1 tg).actN A]] w fun e w'=>nN w0 hb (Y a0 S.n0 c0) (Y a1 S.n1 c1) making L0 w e w' (bO S (aL S n making) tg 201 z [] []):=by
 obtain⟨i6,FZ,Gj,Gr,Ge⟩:=eZ xu;obtain⟨i7,Gs,Gf,Gc,FU⟩:=eZ Bc;obtain⟨hok,hc1,Ft⟩:=bY (C.ok.act tg Fi);obtain⟨M,K,rfl,Gi⟩:∃ M K,a=Q (J M K Z)/\RowIns w0 M K (S.f1 tg).actN (S.f1 tg).act:=by
  rcases Gm with h | ⟨b,off,e,hr⟩
  ·omega
  ·exact⟨b,off,e,hr⟩
 have GN:=ae Gi;have CC:=ae C;have Gx:=ae HK;have n6:w0.heap.size<=w.heap.size:=h.lt;have Gz:=ae (Be C.ok Fi);obtain⟨R0,FO⟩:∃ R0,R0=bO S (aL S n making) tg 201 z [] []:=⟨_,rfl⟩
 rw[<-FO];have GF:=ae FO;have A2:=ae (((Qs w).alloc lr (T #[Y (Q (J M K Z)) (S.f1 tg).actN A] 31)).alloc (by simp) (T #[N I 0,U ⟨#[]⟩,Y Z 0 0] 41));have z2:((w.alloc (T #[Y (Q (J M K Z)) (S.f1 tg).actN A] 31)).alloc (T #[N I 0,U ⟨#[]⟩,Y Z 0 0] 41)).heap.size=w.heap.size+2:=by simp
 have kp:Hid (((w.alloc (T #[Y (Q (J M K Z)) (S.f1 tg).actN A] 31)).alloc (T #[N I 0,U ⟨#[]⟩,Y Z 0 0] 41)).heap[w.heap.size]?=Q (T #[Y (Q (J M K Z)) (S.f1 tg).actN A] 31 (0,0))) :=
  (((eI (w.heap.size+1) _).alloc (by simp) _).block w.heap.size (by omega)).trans (eL w _)
 have kr:Hid (((w.alloc (T #[Y (Q (J M K Z)) (S.f1 tg).actN A] 31)).alloc (T #[N I 0,U ⟨#[]⟩,Y Z 0 0] 41)).heap[w.heap.size+1]?=Q (T #[N I 0,U ⟨#[]⟩,Y Z 0 0] 41 (0,0))):=by have h2:=eL (w.alloc (T #[Y (Q (J M K Z)) (S.f1 tg).actN A] 31)) (T #[N I 0,U ⟨#[]⟩,Y Z 0 0] 41);rw[show(w.alloc (T #[Y (Q (J M K Z)) (S.f1 tg).actN A] 31)).heap.size=w.heap.size+1 by simp] at h2;exact h2
 have Fq:=ae (h.below A2 lr);have FX:=ae hrel;have F9:=ae hp;have Gh:=ae Fr;have GW:=ae FY;clear h C HK Gi Gm FO hrel hp Fr FY;go_enter Tryz.func217,Tryz.ntmps217;go_upto_region 1 with fail;generalize (w.alloc (T #[Y (Q (J M K Z)) (S.f1 tg).actN A] 31)).alloc (T #[N I 0,U ⟨#[]⟩,Y Z 0 0] 41)=W2 at A2 z2 kp kr Fq ⊢;have hzW2:w.heap.size+2<=W2.heap.size:=by omega
 clear z2;have A3:=ae ((Qs W2).alloc lr (T #[] 66));have O6:=ae (jW W2 66 3);go_upto_region 2 with fail;generalize W2.alloc (T #[] 66)=W3 at A3 O6 ⊢;have A4:=ae ((Qs W3).alloc lr (T #[] 242));have O7:=ae (jW W3 242 3);go_wp2_with fail;generalize W3.alloc (T #[] 242)=W4 at A4 O7 ⊢;have n9:=ae (A3.trans (A4.mono A3.size));have AW:=ae (A2.trans (n9.mono A2.size));have hw32:W2.heap.size<=W3.heap.size:=A3.size;have Gd:Hid (SB w0 hb (Y a0 S.n0 c0) (Y a1 S.n1 c1) w making (Y (Q (J M K Z)) (S.f1 tg).actN A) W4 [] [] z L0 Fs Fh Fm W2.heap.size 0 W3.heap.size 0):=by refine⟨Fq.below n9 lr,aI (own_below O6 A4 lr) (by omega),aI O7 (by omega),fun m hm hd e=>?_,(n9.block _ (by omega)).trans kp,(n9.block _ (by omega)).trans kr,KS.of_below AW lr n6⟩;have:=(af (Fq.seen m hm hd) _ e).2.1;omega
 have F4:Hid (SR w0 S hb (Y a0 S.n0 c0) (Y a1 S.n1 c1) w n making tg (Y (Q (J M K Z)) (S.f1 tg).actN A) L0 R0 W4 [] [] z L0 Fs Fh Fm W2.heap.size 0 W3.heap.size 0) :=
  ⟨Gd,FX,F9,gn S z,Gh,GF.symm,CP _,LExt.refl _ _⟩
 clear Gd O6 O7 A3 A4 A2 n9 AW Fq FX F9 Gh kp kr;go_loopg [6,7] 202 (fun g v6 v7 wr=>∃ f QO made L md or st g6 c6 g7 c7,v6=Y (Q (J g6 0 Z)) (List.length (α:=aA) f) c6/\v7=Y (Q (J g7 0 Z)) (List.length (α:=Lk) QO) c7/\Hid (SR w0 S hb (Y a0 S.n0 c0) (Y a1 S.n1 c1) w n making tg (Y (Q (J M K Z)) (S.f1 tg).actN A) L0 R0 wr f QO made L md or st g6 c6 g7 c7)/\201 - f.length<=g);case atStart=>exact⟨[],[],z,L0,Fs,Fh,Fm,_,_,_,_,rfl,rfl,F4,by simp⟩
 case round =>
  clear F4;obtain⟨f,QO,made,L,md,or,st,g6,c6,g7,c7,rfl,rfl,u,hg⟩:=hrel;have k0:wr.cell? (J w.heap.size 0 Z)=Q (Y (Q (J M K Z)) (S.f1 tg).actN A):=by simp[World.cell?,u.sb.kp]
  have hkl:=ai u.sb.kp;have hy:=u.le;have Gg:QO.length=f.length:=u.rg.len;obtain⟨QK,hT⟩:∃ QK,QK=bF S tg f:=⟨_,rfl⟩
  have HT:=ae hT;have Gb:=ae Gg;clear hT Gg;go_wp2_with fail;refine(sJ M K (S.f1 tg).actN A g6 0 f.length c6 (S.f1 tg).act (yL f) wr (by omega) (GN.below u.sb.si.bel lr) (Dx u.sb.r6) Gz).mono ?_;rintro e QM ⟨he,V⟩;rw[yT CC.ok Fi u.rg.good u.le,<-HT.out] at he;subst he;have Gy:=ae (u.sb.below V lr);have FI:=ae (kH CC.ok Fi u.rg.good);rw[<-HT.out] at FI;clear V k0;obtain⟨over,code,text,ask,name,steps⟩:=QK;simp only[Turn.v];have A5:=ae ((Qs QM).alloc lr (T #[QA over,N I code,U text,QA ask,U name,N I steps] 61));have kt:Hid (TBx (QM.alloc (T #[QA over,N I code,U text,QA ask,U name,N I steps] 61)) QM.heap.size over code text ask name steps):=eL _ _;obtain⟨t0,t1,t2,t3,t4⟩:=kt.cells;have o:=ae (Gy.below A5 lr);cases over with
  | true =>
   have GM:Hid (R0=.inl (made,(⟨QC,code,text,ask,name,steps⟩,QO))):=by show _=_;rw[<-u.run,show 201 - f.length=(200 - f.length)+1 by omega,bO,<-HT.out,eT rfl]
   obtain⟨rl,r0,r1,r2,rf⟩:=aZ o.kr;have Gu:=rf 0;have FV:=rf 1;have Ga:=rf 2;clear rf;go_wp2_with fail;generalize QM.alloc (T #[QA QC,N I code,U text,QA ask,U name,N I steps] 61)=W5 at A5 kt o r0 r1 r2 Gu FV Ga rl t0 t1 t2 t3 t4 ⊢;refine bp (v:=.tuple #[QE #[N I code,U text,Y Z 0 0],Y (Q (J g7 0 Z)) QO.length c7]) (by simp[results,Tryz.results217,go_sem,r0,r1,r2]) rfl ?_;have QH:w0.heap.size<=w.heap.size+1:=by omega
   have x0:=o.si.setOff o.kr ⟨by decide,by decide,by decide,by decide⟩ QH 0 (N I code);have y0:=aw o.kr (j:=0) (N I code);have x1:=x0.setOff y0 ⟨by decide,by decide,by decide,by decide⟩ QH 1 (U text);have y1:=aw y0 (j:=1) (U text);have x2:=x1.setOff y1 ⟨by decide,by decide,by decide,by decide⟩ QH 2 (Y Z 0 0);have At:g7≠w.heap.size+1:=fun e=>by obtain⟨_,_,cs,hc⟩:=af o.r7 g7 rfl;exact absurd (ah (e ▸ hc) o.kr) (by decide)
   rw[GM.out];refine⟨L,md,or,st,g7,c7,rfl,x2,u.rel,az (az (az o.r7 (fun e=>At (FB e)) _ _) (fun e=>At (FB e)) _ _) (fun e=>At (FB e)) _ _,o.ap,u.ext,?_⟩;refine((o.kx.trans (KS.setCell (X:=fun i=>i=w.heap.size+1) W5 QH (Or.inl rfl) (N I code)) ?_).trans (KS.setCell (X:=fun i=>i=w.heap.size+1) _ QH (Or.inl rfl) (U text)) ?_).trans (KS.setCell (X:=fun i=>i=w.heap.size+1) _ QH (Or.inl rfl) (Y Z 0 0)) ?_;all_goals
    intro i hi h;have e2:i=w.heap.size+1:=h;omega
  | false =>
   have hyl:f.length<200:=by
    rcases FI.out with h | h
    ·exact absurd h.1 (by simp)
    ·exact h.2.1
   have HN:Hid (au name=QC):=by
    rcases FI.out with h | h
    ·exact absurd h.1 (by simp)
    ·exact h.2.2
   cases ask with
   | false =>
    have B:=u.run;rw[show 201 - f.length=(200 - f.length)+1 by omega,bO,<-HT.out,a8 (by simp),eT rfl] at B;obtain⟨QN,Bk⟩:∃ QN,QN=fh S name:=⟨_,rfl⟩
    have F0:=ae Bk;simp only at B;rw[<-Bk] at B;have NX:=ae B;clear B Bk;go_wp2_with fail;clear t0 t1 t2 t3 t4;generalize QM.alloc (T #[QA D,N I code,U text,QA D,U name,N I steps] 61)=W5 at A5 kt o ⊢;obtain⟨QG,b0,b1,-⟩:=o.si.box.facts;refine(nL CC W5 name o.si.bel QG b0 b1).mono ?_;rintro e H ⟨he,V⟩;rw[<-F0.out] at he;subst he;have G:=ae (o.below V lr);have ex:Hid (TBx H QM.heap.size D code text D name steps):=(V.block _ (ai kt)).trans kt;clear V b0 b1 QG;have q:=ae ((Qs H).alloc lr (T #[QA QN,N I 0,U ⟨#[]⟩] 66));have RA:=ae (own_below G.r6 q lr);have FD:w.heap.size<=H.heap.size:=G.kx.below.size
    go_upto_region 9 with (first
     | (at_builtin;refine bu _ rfl (.tmp 32) (.tmp 35) 59 rfl w.heap.size 66 i6 (QE #[QA D,N I 0,U ⟨#[]⟩]) 3 32 Tryz.underlying59 FZ Gj Gr Ge rfl (by decide) (Y (Q (J g6 0 Z)) f.length c6) f.length (kZ f) (by simp[Act.eval]) RA.out (J H.heap.size 0 Z) 1 1 [QA QN,N I 0,U ⟨#[]⟩] (by simp[Act.eval]) rfl (iI H _ _ _ _) (by simp[Value.oneCell']) (by unfold maxLen;omega) (by omega) (by simp<;>omega) ?_;intro v3 s fd QL DA;have O3:=ae fd;have G3:=ae QL;clear fd QL DA)
     | fail)
    have la:Hid (∀ (k:Nat) (cs:Array QB) (t:QF) (fz:Nat × Nat),(H.alloc (T #[QA QN,N I 0,U ⟨#[]⟩] 66)).heap[k]?=Q (Obj.cells cs t fz)->t≠66->s.heap[k]?=(H.alloc (T #[QA QN,N I 0,U ⟨#[]⟩] 66)).heap[k]?):=fun k cs t fz hk ht=>G3.block k (ai hk) fun e=>by obtain⟨_,_,GQ,Ft⟩:=af RA k e.symm;exact ht (ah hk Ft)
    have qr:Hid (TBx s QM.heap.size D code text D name steps):=by have h0:=(q.block _ (ai ex)).trans ex;exact(la _ _ _ _ h0 (by decide)).trans h0
    have Fy:Hid (s.ownsRow w.heap.size 242 3 (Y (Q (J g7 0 Z)) QO.length c7) QO.length (eY QO)):=bI (own_below G.r7 q lr) fun k hk=>by obtain⟨_,_,cs,hc⟩:=af (own_below G.r7 q lr) k hk;exact la _ _ _ _ hc (by decide)
    obtain⟨-,-,-,-,n4⟩:=qr.cells;have GO:=ai qr.out;have A7:=ae ((Qs s).alloc lr (T #[U name,QA D,QA QN] 242));have RS:=ae (own_below Fy A7 lr);have GE:w.heap.size<=s.heap.size:=j5 (j5 FD (by simp<;>omega)) G3.size;have th:=Gb.out;obtain⟨R,aq⟩:∃ R,R=QO.length:=⟨_,rfl⟩
    have F1:R<=200:=by omega
    have FJ:=ae aq;rw[<-aq] at RS ⊢;clear th aq
    go_wp2_with (first
     | (at_builtin;refine bu _ rfl (.tmp 37) (.tmp 42) 237 rfl w.heap.size 242 i7 (QE #[U ⟨#[]⟩,QA D,QA D]) 3 24 Tryz.underlying237 Gs Gf Gc FU rfl (by decide) (Y (Q (J g7 0 Z)) R c7) R (eY QO) (by simp[Act.eval]) RS.out (J s.heap.size 0 Z) 1 1 [U name,QA D,QA QN] (by simp[Act.eval]) rfl (iI s _ _ _ _) (by simp[Value.oneCell']) (by unfold maxLen;omega) (by omega) (by simp<;>omega) ?_;intro v4 w4 bt P mv;have O4:=ae bt;have G4:=ae P;have FM:=ae mv;clear bt P mv)
     | fail)
    obtain⟨FK,FL,FC,FE,e6,e7,FQ⟩:=G.more (r:=⟨QN,0,⟨#[]⟩⟩) (l:=⟨name,D,QN⟩) n6 q O3 G3 A7 (by rw[<-FJ.out];exact O4) G4 FM;have QP:(f++[(⟨QN,0,⟨#[]⟩⟩:aA)]).length=f.length+1:=by simp
    have Fz:Hid (SR w0 S hb (Y a0 S.n0 c0) (Y a1 S.n1 c1) w n making tg (Y (Q (J M K Z)) (S.f1 tg).actN A) L0 R0 w4 (f++[⟨QN,0,⟨#[]⟩⟩]) (QO++[⟨name,D,QN⟩]) made L md or st FK FL FC FE) :=
     ⟨FQ,u.rel,u.pg,(u.rg.add (by rw[F0.out];exact jS _ _) HN (fun h=>by cases h)),(by rw[QP,show 201 - (f.length+1)=200 - f.length by omega];exact(by have:=u.room;unfold eJ at this ⊢;omega)),(by rw[QP,show 201 - (f.length+1)=200 - f.length by omega];exact NX),(by rw[QP];omega),u.ext⟩
    obtain⟨g,rfl⟩:∃ g,gk=g+1:=⟨gk - 1,by omega⟩
    go_roundg g;case measure=>omega
    case rel=>exact⟨_,_,_,_,_,_,_,_,_,_,_,e6,e7,Fz,by rw[QP];omega⟩
   | true =>
    have B:=u.run;rw[show 201 - f.length=(200 - f.length)+1 by omega,bO,<-HT.out,a8 (by simp),a8 (by simp)] at B;simp only at B;go_wp2_with fail;clear t0 t1 t2 t3 t4;generalize QM.alloc (T #[QA D,N I code,U text,QA QC,U name,N I steps] 61)=W5 at A5 kt o ⊢;refine(Gx making made L md or st W5 name Gv o.si u.rel u.pg (by have:=u.room;unfold eJ at this ⊢;omega) GW HN).mono ?_;intro e H QJ;have HQ:(∃ QQ x,aL S n making made name=.inl (QQ,x))∨∃ (r:ResL) (va:Option Addr) (vn vk:Nat),e=QD (gK r (Y va vn vk))/\ij w0 hb H r (Y va vn vk)/\KS w0.heap.size XN W5 H/\Hid (∀ vs w',ij w0 hb w' r (Y va vn vk)->KS w0.heap.size XN w w'->nN w0 hb (Y a0 S.n0 c0) (Y a1 S.n1 c1) making L0 w (QD (.tuple #[gK r (Y va vn vk),vs])) w' R0):=by
     rcases hr:aL S n making made name with ⟨QQ,x⟩ | c | d
     ·exact .inl ⟨_,_,rfl⟩
     all_goals
      rw[hr] at QJ B;dsimp only at B;subst B
     ·obtain⟨ca,ck,rfl,hd,hK⟩:=QJ
      exact .inr ⟨_,_,_,_,rfl,hd,hK,fun vs w' h1 h2=>⟨ca,ck,vs,rfl,h1,h2⟩⟩
     ·obtain⟨rfl,hd,hK⟩:=QJ
      exact .inr ⟨_,_,_,_,rfl,hd,hK,fun vs w' h1 h2=>⟨vs,rfl,h1,h2⟩⟩
    rcases HQ with ⟨QQ,x,hr⟩ | ⟨r,va,vn,vk,rfl,⟨q0,q1,qm,qo,qs,Fo,Gt⟩,hK,fin⟩
    ·rw[hr] at QJ B
     dsimp only at B;obtain⟨L2,GC,GH,GI,rfl,FW,Fw,FF,hK⟩:=QJ;obtain⟨Fl,⟨more,Fd⟩,hx,FP⟩:=cP CC.ok n making made name QQ x u.pg HN hr;have Fk:=gj S n making made name QQ x hr;have FN:∀ y∈made,y∈QQ:=fun y hy=>by rw[Fd];exact II _ hy
     have FA:=ae (o.step hK FW FF);have GT:=ae Fw;have GY:=ae Fl;have FT:Hid (RG S QQ (f++[fg x]) (QO++[⟨name,QC,D⟩])):=(u.rg.mono FN).add (iO (Fl.ents x hx)) HN (fun _=>⟨x,hx,FP⟩);have GV:Hid (eJ S making QQ (200 - f.length)):=by have:=u.room;unfold eJ at this ⊢;unfold fq at Fk;show _<=_;omega
     have GU:=ae (u.ext.trans FF o.kx.below.size);have sm:Hid (TBx H QM.heap.size D code text QC name steps):=(hK.blk _ _ _ _ kt (by decide) (by decide) (by decide) fun h=>h).trans kt;have NX:=ae B;obtain⟨rc,rt,ob,oc,ot,Gq,Gn,F7⟩:=Bo (Fl.ents x hx);rw[Gn] at FT NX;have hz25:W5.heap.size<=H.heap.size:=hK.below.size;have hg65:g6<W5.heap.size:=(af o.r6 g6 rfl).2.1;have hw25:w.heap.size+2<=W5.heap.size:=ai o.kr;rw[FP] at F7;simp only[Gq];clear FW Fw FF hK Fl Fd hx FP Fk FN hr B Gq Gn;have q:=ae ((Qs H).alloc lr (T #[N I rc,U rt,Y Z 0 0] 41));have FG:Hid ((H.alloc (T #[N I rc,U rt,Y Z 0 0] 41)).heap[H.heap.size]?=Q (T #[N I rc,U rt,Y Z 0 0] 41 (0,0))):=eL _ _;obtain⟨QG,-,-,-,-,-,-,-,-,b8,-⟩:=FA.si.box.facts;have d8:=(q.cell (p:=(J hb 8 Z)) QG).trans b8;obtain⟨rl,r0,r1,-,-⟩:=aZ FG;go_upto_region 13 with fail;clear d8 b8;generalize H.alloc (T #[N I rc,U rt,Y Z 0 0] 41)=W6 at q FG r0 r1 rl ⊢;have A7:=ae ((Qs W6).alloc lr (T #[QA QC,N I rc,U rt] 66));have ky:Hid ((W6.alloc (T #[QA QC,N I rc,U rt] 66)).heap[W6.heap.size]?=Q (T #[QA QC,N I rc,U rt] 66 (0,0))):=eL _ _;go_upto_region 14 with fail;generalize W6.alloc (T #[QA QC,N I rc,U rt] 66)=W8 at A7 ky ⊢;have Gp:=ae (q.trans (A7.mono q.size));have n8:=ae (FA.below Gp lr);have ph:Hid (TBx W8 QM.heap.size D code text QC name steps):=(Gp.block _ (ai sm)).trans sm;have r7:=(A7.cell (p:=(J H.heap.size 0 Z)) rl).trans r0;have ro:H.heap.size<W8.heap.size:=ll rl A7.size;obtain⟨-,-,-,-,tn⟩:=ph.cells;have n7:=ai ph.out;obtain⟨O,F3⟩:∃ O,O=W6.heap.size:=⟨_,rfl⟩
     rw[<-F3] at ky ⊢;have DQ:w.heap.size+2<=O:=by have:=q.size;omega
     have DE:O≠g6:=by have:=q.size;omega
     clear F3 FA sm A7 q FG r0 r1;obtain⟨ld,b0,b1,-⟩:=n8.si.box.facts;rcases F7 with ⟨FH,e4,e3⟩ | ⟨FH,e3⟩
     case' inr=>by_cases h4:rc=4
     all_goals
      have Gk:=ae FH;have E3:=ae e3;clear FH e3
     case' inl =>
      subst e4;go_wp2_with fail;refine(nL CC W8 name n8.si.bel ld b0 b1).mono ?_;rintro e s ⟨he,V⟩;rw[Gk.out] at he;subst he;have GP:=ae (n8.below V lr);have Gl:Hid (TBx s QM.heap.size D code text QC name steps):=(V.block _ n7).trans ph;have Fp:=(V.block _ (ai ky)).trans ky;obtain⟨yl,y0,y1,y2,yf⟩:=aZ Fp;have GK:=yf 0;have GS:=yf 1;have GL:=yf 2;have x0:=GP.setOff Fp ⟨by decide,by decide,by decide,by decide⟩ n6 DQ DE 0 (QA D);have x1:=x0.1.setOff x0.2 ⟨by decide,by decide,by decide,by decide⟩ n6 DQ DE 1 (N I 0);have x2:=x1.1.setOff x1.2 ⟨by decide,by decide,by decide,by decide⟩ n6 DQ DE 2 (U ⟨#[]⟩);have G:=ae x2.1;have Fx:QM.heap.size≠O:=fun e=>absurd (ah (show s.heap[QM.heap.size]?=_ from Gl.out) (e ▸ Fp)) (by decide);have ex:Hid (TBx (((s.setCell (J O 0 Z) (QA D)).setCell (J O 1 Z) (N I 0)).setCell (J O 2 Z) (U ⟨#[]⟩)) QM.heap.size D code text QC name steps):=(qh _ _ _ _ Fx).trans ((qh _ _ _ _ Fx).trans ((qh _ _ _ _ Fx).trans Gl));have KY:Hid ((((s.setCell (J O 0 Z) (QA D)).setCell (J O 1 Z) (N I 0)).setCell (J O 2 Z) (U ⟨#[]⟩)).heap[O]?=Q (T #[QA ob,N I oc,U ot] 66 (0,0))):=by rw[E3.1,E3.2.1,E3.2.2];exact x2.2
      clear x0 x1 x2 V tn b0 b1 ld r7 ro n7 rl Fp;go_upto_region 16 with fail;clear y0 y1 y2 GK GS GL yl;generalize ((s.setCell (J O 0 Z) (QA D)).setCell (J O 1 Z) (N I 0)).setCell (J O 2 Z) (U ⟨#[]⟩)=W8 at G KY ex ⊢
     case' pos =>
      subst h4;go_wp2_with fail;refine(nL CC W8 name n8.si.bel ld b0 b1).mono ?_;rintro e s ⟨he,V⟩;rw[Gk.out] at he;subst he;have G:=ae (n8.below V lr);have ex:Hid (TBx s QM.heap.size D code text QC name steps):=(V.block _ n7).trans ph;have KY:Hid (s.heap[O]?=Q (T #[QA ob,N I oc,U ot] 66 (0,0))):=by rw[E3.1,E3.2.1,E3.2.2];exact(V.block _ (ai ky)).trans ky
      clear V tn b0 b1 ld r7 ro n7 rl;go_upto_region 16 with fail;generalize s=W8 at G KY ex ⊢
     case' neg =>
      have h4b:(rc == 4)=D:=by simpa using h4
      have G:=n8;have ex:=ph;have KY:Hid (W8.heap[O]?=Q (T #[QA ob,N I oc,U ot] 66 (0,0))):=by rw[E3.1,E3.2.1,E3.2.2];exact ky
      go_upto_region 16 with fail;clear tn b0 b1 ld r7 ro n7 rl
     all_goals
      obtain⟨yl,y0,y1,y2,-⟩:=aZ KY;have q:=ae ((Qs W8).alloc lr (T #[QA ob,N I oc,U ot] 66));have RA:=ae (own_below G.r6 q lr);have FD:w.heap.size<=W8.heap.size:=G.kx.below.size
      go_upto_region 17 with (first
       | (at_builtin;refine bu _ rfl (.tmp 73) (.tmp 75) 59 rfl w.heap.size 66 i6 (QE #[QA D,N I 0,U ⟨#[]⟩]) 3 32 Tryz.underlying59 FZ Gj Gr Ge rfl (by decide) (Y (Q (J g6 0 Z)) f.length c6) f.length (kZ f) (by simp[Act.eval]) RA.out (J W8.heap.size 0 Z) 1 1 [QA ob,N I oc,U ot] (by simp[Act.eval]) rfl (iI W8 _ _ _ _) (by simp[Value.oneCell']) (by unfold maxLen;omega) (by omega) (by simp<;>omega) ?_;intro v3 s fd QL DA;have O3:=ae fd;have G3:=ae QL;clear fd QL DA)
       | fail)
      have la:Hid (∀ (k:Nat) (cs:Array QB) (t:QF) (fz:Nat × Nat),(W8.alloc (T #[QA ob,N I oc,U ot] 66)).heap[k]?=Q (Obj.cells cs t fz)->t≠66->s.heap[k]?=(W8.alloc (T #[QA ob,N I oc,U ot] 66)).heap[k]?):=fun k cs t fz hk ht=>G3.block k (ai hk) fun e=>by obtain⟨_,_,GQ,Ft⟩:=af RA k e.symm;exact ht (ah hk Ft)
      have qr:Hid (TBx s QM.heap.size D code text QC name steps):=by have h0:=(q.block _ (ai ex)).trans ex;exact(la _ _ _ _ h0 (by decide)).trans h0
      have Fy:Hid (s.ownsRow w.heap.size 242 3 (Y (Q (J g7 0 Z)) QO.length c7) QO.length (eY QO)):=bI (own_below G.r7 q lr) fun k hk=>by obtain⟨_,_,cs,hc⟩:=af (own_below G.r7 q lr) k hk;exact la _ _ _ _ hc (by decide)
      obtain⟨-,-,-,-,n4⟩:=qr.cells;have GO:=ai qr.out;have A7:=ae ((Qs s).alloc lr (T #[U name,QA QC,QA D] 242));have RS:=ae (own_below Fy A7 lr);have GE:w.heap.size<=s.heap.size:=j5 (j5 FD (by simp<;>omega)) G3.size;have th:=Gb.out;obtain⟨R,aq⟩:∃ R,R=QO.length:=⟨_,rfl⟩
      have F1:R<=200:=by omega
      have FJ:=ae aq;rw[<-aq] at RS ⊢;clear th aq
      go_wp2_with (first
       | (at_builtin;refine bu _ rfl (.tmp 77) (.tmp 81) 237 rfl w.heap.size 242 i7 (QE #[U ⟨#[]⟩,QA D,QA D]) 3 24 Tryz.underlying237 Gs Gf Gc FU rfl (by decide) (Y (Q (J g7 0 Z)) R c7) R (eY QO) (by simp[Act.eval]) RS.out (J s.heap.size 0 Z) 1 1 [U name,QA QC,QA D] (by simp[Act.eval]) rfl (iI s _ _ _ _) (by simp[Value.oneCell']) (by unfold maxLen;omega) (by omega) (by simp<;>omega) ?_;intro v4 w4 bt P mv;have O4:=ae bt;have G4:=ae P;have FM:=ae mv;clear bt P mv)
       | fail)
      obtain⟨FK,FL,FC,FE,e6,e7,FQ⟩:=G.more (r:=⟨ob,oc,ot⟩) (l:=⟨name,QC,D⟩) n6 q O3 G3 A7 (by rw[<-FJ.out];exact O4) G4 FM;have QP:(f++[(⟨ob,oc,ot⟩:aA)]).length=f.length+1:=by simp
      have Fz:Hid (SR w0 S hb (Y a0 S.n0 c0) (Y a1 S.n1 c1) w n making tg (Y (Q (J M K Z)) (S.f1 tg).actN A) L0 R0 w4 (f++[⟨ob,oc,ot⟩]) (QO++[⟨name,QC,D⟩]) QQ L2 GC GH GI FK FL FC FE) :=
       ⟨FQ,GT,GY,FT,(by rw[QP,show 201 - (f.length+1)=200 - f.length by omega];exact GV),(by rw[QP,show 201 - (f.length+1)=200 - f.length by omega];exact NX),(by rw[QP];omega),GU⟩
      obtain⟨g,rfl⟩:∃ g,gk=g+1:=⟨gk - 1,by omega⟩
      go_roundg g;case measure=>omega
      case rel=>exact⟨_,_,_,_,_,_,_,_,_,_,_,e6,e7,Fz,by rw[QP];omega⟩
    ·clear QJ B
     obtain⟨QG,-,-,-,-,-,b5,b6,b7,b8,-⟩:=Fo.facts;have Fj:=(hK.blk _ _ _ _ o.kr (by decide) (by decide) (by decide) fun h=>h).trans o.kr;have KW:=ae (o.kx.to hK);have GA:=ae Fo;have F8:=ae Gt;have q:=ae ((Qs H).alloc lr (T #[N I r.code,U r.text,Y va vn vk] 41));have Fu:=(q.block _ (ai Fj)).trans Fj;obtain⟨rl,r0,r1,r2,rf⟩:=aZ Fu;have d5:=(q.cell (p:=(J hb 5 Z)) QG).trans b5;have d6:=(q.cell (p:=(J hb 6 Z)) QG).trans b6;have d7:=(q.cell (p:=(J hb 7 Z)) QG).trans b7;have d8:=(q.cell (p:=(J hb 8 Z)) QG).trans b8;have Gu:=rf 0;have FV:=rf 1;have Ga:=rf 2;have ur:hb≠w.heap.size+1:=fun e=>absurd (ah (e ▸ Fo) Fj) (by decide);have GJ:=ae Fu;clear rf Fo Gt hK b5 b6 b7 b8 Fj Fu;simp only[gK];go_wp2_with fail;refine bp (v:=.tuple #[gK r (Y va vn vk),Y (Q (J g7 0 Z)) QO.length c7]) (by simp[results,Tryz.results217,go_sem,r0,r1,r2,gK]) rfl ?_;have QH:w0.heap.size<=w.heap.size+1:=by omega
     have Gw:∀ (W:E) (v0 v1 v2:QB),(((W.setCell (J (w.heap.size+1) 0 Z) v0).setCell (J (w.heap.size+1) 1 Z) v1).setCell (J (w.heap.size+1) 2 Z) v2).heap[hb]?=W.heap[hb]?:=fun W v0 v1 v2=>(qh _ _ _ _ ur).trans ((qh _ _ _ _ ur).trans (qh _ _ _ _ ur));have Fv:∀ k,(Value.slice va vn vk).ownBlock=Q k->k≠w.heap.size+1:=fun k hk e=>by obtain⟨_,_,cs,hc⟩:=af (own_below F8 q lr) k hk;exact absurd (ah (e ▸ hc) GJ) (by decide)
     refine fin (Y (Q (J g7 0 Z)) QO.length c7) _ ⟨q0,q1,qm,qo,qs,(Gw _ _ _ _).trans ((q.block _ QG).trans GA),az (az (az (own_below F8 q lr) (fun e=>Fv _ e rfl) _ _) (fun e=>Fv _ e rfl) _ _) (fun e=>Fv _ e rfl) _ _⟩ ?_;refine((((KW.to (KS.of_below q lr (j5 n6 KW.below.size))).trans (KS.setCell (X:=fun i=>i=w.heap.size+1) _ QH (Or.inl rfl) _) ?_).trans (KS.setCell (X:=fun i=>i=w.heap.size+1) _ QH (Or.inl rfl) _) ?_).trans (KS.setCell (X:=fun i=>i=w.heap.size+1) _ QH (Or.inl rfl) _) ?_);all_goals
      intro i hi h;have e2:i=w.heap.size+1:=h;omega
end
end Go.Proofs.YtkdimgejdocbbaaGreatDoor.Vp
