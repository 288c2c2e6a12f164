import Derived.Test.YtamacmnikdejeaaGreatDoorQD
import Derived.Test.YtamacmnikdejeaaGreatDoorRS
import Derived.Deep.Cut
set_option maxRecDepth 1000000
set_option maxHeartbeats 8000000
open Go.Addr renaming mk->N
open Go.Value renaming slice->Y,string->U,int->J,bool->QC,agg->QG
open Option renaming none->Z,some->T
open Go.Obj renaming cells->Q
open Go.IntKind renaming i64->I
open Go renaming World->G,Value->QE
open Bool renaming false->QB,true->QD
open Go.Ending renaming returned->QF
namespace Go.Proofs.YtamacmnikdejeaaGreatDoor.Vp
open RowKit
structure SB (w0:G)(hb:Nat)(s0 s1:QE)(w:G)(making:List ByteArray)(pv:QE)(wr:G)(ys:List aC)(ls:List Lk)(made:List Ent)(L:List SM)(md or st:QE)(g6 c6 g7 c7:Nat):Prop where
 si:SI w0 hb s0 s1 wr making made L md or st
 r6:wr.ownsRow w.heap.size 156 3 (Y (T (N g6 0 Z)) ys.length c6) ys.length (lC ys)
 r7:wr.ownsRow w.heap.size 164 3 (Y (T (N g7 0 Z)) ls.length c7) ls.length (dW ls)
 ap:∀ m∈L,m.done=QD->m.sv.ownBlock≠T g7
 kp:wr.heap[w.heap.size]?=T (Q #[pv] 43 (0,0))
 kr:wr.heap[w.heap.size+1]?=T (Q #[J I 0,U ⟨#[]⟩,Y Z 0 0] 37 (0,0))
 kx:KS w0.heap.size XN w wr
structure SR (w0:G)(S:Spc)(hb:Nat)(s0 s1:QE)(w:G)(n:Nat)(making:List ByteArray)(tg:Nat)(pv:QE)(L0:List SM)(R0:Out (Turn × List Lk))(wr:G)(ys:List aC)(ls:List Lk)(made:List Ent)(L:List SM)(md or st:QE)(g6 c6 g7 c7:Nat):Prop where
 sb:SB w0 hb s0 s1 w making pv wr ys ls made L md or st g6 c6 g7 c7
 rel:fe L making made
 pg:PG S making made
 rg:RG S made ys ls
 room:eK S making made (201 - ys.length)
 run:bW S (aZ S n making) tg (201 - ys.length) made ys ls=R0
 le:ys.length<=200
 ext:LExt w.heap.size L0 L
def TBx (w:G)(g:Nat)(over:Bool)(code:Int)(text:ByteArray)(ask:Bool)(name:ByteArray)(steps:Int):Prop:=w.heap[g]?=T (Q #[QC over,J I code,U text,QC ask,U name,J I steps] 150 (0,0))
theorem TBx.cells {w:G}{g:Nat}{over:Bool}{code:Int}{text:ByteArray}{ask:Bool}{name:ByteArray}{steps:Int}(h:TBx w g over code text ask name steps):w.cell? (N g 0 Z)=T (QC over)/\w.cell? (N g 1 Z)=T (J I code)/\w.cell? (N g 2 Z)=T (U text)/\w.cell? (N g 3 Z)=T (QC ask)/\w.cell? (N g 4 Z)=T (U name):=by unfold TBx at h;refine⟨?_,?_,?_,?_,?_⟩;all_goals simp[World.cell?,h]
def oB (w0:G)(hb:Nat)(s0 s1:QE)(making:List ByteArray)(L:List SM)(w:G)(e:Ending)(w':G):Out (Turn × List Lk)->Prop
 | .inl (made',x)=>∃ b i h f g c,e=QF (.tuple #[QG #[J I x.1.code,U x.1.text,Y Z 0 0],Y (T (N g 0 Z)) x.2.length c])/\SI w0 hb s0 s1 w' making made' b i h f/\fe b making made'/\w'.ownsRow w.heap.size 164 3 (Y (T (N g 0 Z)) x.2.length c) x.2.length (dW x.2)/\(∀ m∈b,m.done=QD->m.sv.ownBlock≠T g)/\LExt w.heap.size L b/\KS w0.heap.size XN w w'
 | .inr (.inl c)=>∃ a k sv,e=QF (.tuple #[gH (iM c) (Y a c.length k),sv])/\ip w0 hb w' (iM c) (Y a c.length k)/\KS w0.heap.size XN w w'
 | .inr (.inr d)=>∃ sv,e=QF (.tuple #[gH (iN d) (Y Z 0 0),sv])/\ip w0 hb w' (iN d) (Y Z 0 0)/\KS w0.heap.size XN w w'
theorem iO (w:G)(b f g:QE)(t:TypeId):∀ j u,[b,f,g][j]?=T u->(w.alloc (Q #[b,f,g] t)).cell? (((N w.heap.size 0 Z):Addr).add j)=T u:=by
 intro j u h;rw[addr_add];have hj:j<3:=by
  rcases JK j 3 with i | i
  ·exact i
  ·rw[I6 (by simp;omega)] at h;cases h
 rcases(show j=0∨j=1∨j=2 by omega) with rfl | rfl | rfl;all_goals
  simp at h;subst h;simp
theorem aY {w:G}{b:Nat}{f g i:QE}{t:TypeId}(h:w.heap[b]?=T (Q #[f,g,i] t (0,0))):b<w.heap.size/\w.cell? (N b 0 Z)=T f/\w.cell? (N b 1 Z)=T g/\w.cell? (N b 2 Z)=T i/\∀ j,w.frozen? (N b j Z)=QB:=by refine⟨ag h,?_,?_,?_,fun j=>?_⟩;all_goals simp[World.cell?,World.frozen?,h]
section
variable {w0 w w':G}{hb:Nat}{s0 s1 md or st:QE}{making:List ByteArray}{made:List Ent}{L:List SM}
theorem SI.grown {v:QE}{j size n:Nat}{e:TypeId}{D:List QE}(h:SI w0 hb s0 s1 w making made L md or st)(b:w.grownBy w' v.ownBlock)(E:w.ownsRow j e size v n D)(hB:w0.heap.size<=j)(r:e≠9/\e≠161/\e≠89)(QR:∀ m∈L,m.done=QD->∀ k,v.ownBlock=T k->m.sv.ownBlock≠T k):SI w0 hb s0 s1 w' making made L md or st:=by
 have A:=aj E;have s:∀ (i:Nat) (p:Array QE) (t:TypeId) (fz:Nat × Nat),w.heap[i]?=T (Obj.cells p t fz)->t≠e->w'.heap[i]?=w.heap[i]?:=fun i p t fz hi l=>b.block i (ag hi) fun o=>by obtain⟨_,_,cs2,q⟩:=A i o.symm;exact l (ar hi q)
 have f:∀ {size n:Nat} {t:TypeId} {u:QE} {B:List QE},w.ownsRow w0.heap.size t size u n B->t≠e->w'.ownsRow w0.heap.size t size u n B:=fun z l=>de z fun k g=>by obtain⟨_,_,p,q⟩:=aj z k g;exact s _ _ _ _ q l
 refine⟨h.bel.trans ⟨b.os,b.tape,b.output,b.size,fun k g=>b.block k (lj g h.lt) fun o=>?_⟩,h.hbB,h.box.blk (s _ _ _ _ h.box r.2.2.symm),f h.rmd r.2.1.symm,f h.ror r.1.symm,f h.rst r.1.symm,h.apart,fun m x y=>de (h.seen m x y) fun k g=>?_⟩
 ·have:=(A k o.symm).1
  omega
 ·obtain⟨_,C,p,q⟩:=aj (h.seen m x y) k g
  exact b.block k C fun o=>QR m x y k o.symm g
theorem KS.grow {v:QE}{b size n:Nat}{e:TypeId}{m:List QE}{W:G}{B:Nat}(h:KS B XN W w)(p:w.grownBy w' v.ownBlock)(g:w.ownsRow b e size v n m)(q:W.heap.size<=b)(l:B<=W.heap.size):KS B XN W w' :=
 h.trans (QH:=fun i=>v.ownBlock=T i) (KS.of_grown p (p9 l h.below.size) fun j f=>⟨p9 (p9 l q) (aj g j f).1,.inl f⟩) fun i hi o=>by have:=(aj g i o).1;omega
theorem SB.below {W wr g:G}{i:QE}{m:List aC}{l:List Lk}{p o n j C:Nat}(h:SB w0 hb s0 s1 W making i wr m l made L md or st p o n j)(b:Below C wr g)(f:wr.heap.size<=C):SB w0 hb s0 s1 W making i g m l made L md or st p o n j :=
 ⟨h.si.below b f,own_below h.r6 b f,own_below h.r7 b f,h.ap,(b.block _ (lj (ag h.kp) f)).trans h.kp,(b.block _ (lj (ag h.kr) f)).trans h.kr,h.kx.to (KS.of_below b f h.si.lt)⟩
theorem SB.more {W V M K QP X:G}{pv v3 P:QE}{n:List aC}{g:List Lk}{z QK j O:Nat}{r:aC}{l:Lk}(h:SB w0 hb s0 s1 W making pv V n g made L md or st z QK j O)(QN:w0.heap.size<=W.heap.size)
  (b3:Below V.heap.size V M) (S:K.ownsRow W.heap.size 156 3 v3 (n.length+1) (lC n++[QC r.has,J I r.code,U r.text])) (B:M.grownBy K (T z))
  (p:Below K.heap.size K QP) (o4:X.ownsRow W.heap.size 164 3 P (g.length+1) (dW g++[U l.name,QC l.ask,QC l.has])) (E:QP.grownBy X (T j)) (D:P.ownBlock=T j∨P.ownBlock=T QP.heap.size) :
  ∃ t u f s,v3=Y (T (N t 0 Z)) (n++[r]).length u/\P=Y (T (N f 0 Z)) (g++[l]).length s/\SB w0 hb s0 s1 W making pv X (n++[r]) (g++[l]) made L md or st t u f s:=by
 have b:=h.below b3 ly;have bt:W.heap.size<M.heap.size:=ag b.kp;have fd:W.heap.size+1<M.heap.size:=ag b.kr;have ex:=aj b.r6 z rfl;obtain⟨hg6,hg6l,cs6,i⟩:=ex
 have s3:=b.si.grown (v:=Y (T (N z 0 Z)) n.length QK) B b.r6 QN ⟨by decide,by decide,by decide⟩ (fun m x y k o e=>by
  cases o
  obtain⟨_,_,cs,QR⟩:=aj (b.si.seen m x y) z e
  exact absurd (ar i QR) (by decide))
 have k3:=KS.grow (v:=Y (T (N z 0 Z)) n.length QK) b.kx B b.r6 ly QN;have aq:K.ownsRow W.heap.size 164 3 (Y (T (N j 0 Z)) g.length O) g.length (dW g):=de b.r7 fun k o=>by obtain⟨_,QL,cs,QR⟩:=aj b.r7 k o;exact B.block k QL fun e=>by cases e;exact absurd (ar i QR) (by decide)
 have QM:=(B.block W.heap.size bt fun e=>by cases e;exact absurd (ar i b.kp) (by decide)).trans b.kp;have R:=(B.block (W.heap.size+1) fd fun e=>by have A:=DC e;exact absurd (ar i (A ▸ b.kr)) (by decide)).trans b.kr;obtain⟨t,u,cu6,rfl,-⟩:=S.2.resolve_left (fun h=>by omega);have QH:=s3.below p ly;have H:=own_below aq p ly;obtain⟨hg7,hg7l,cs7,q⟩:=aj H j rfl;have C:=(p.block W.heap.size (ag QM)).trans QM;have QO:=(p.block (W.heap.size+1) (ag R)).trans R;have s5:=QH.grown (v:=Y (T (N j 0 Z)) g.length O) E H QN ⟨by decide,by decide,by decide⟩ (fun m x y k o e=>by cases o;exact h.ap m x y e);have k5:=KS.grow (v:=Y (T (N j 0 Z)) g.length O) (k3.to (KS.of_below p ly s3.lt)) E H ly QN;obtain⟨f,s,cu7,rfl,-⟩:=o4.2.resolve_left (fun h=>by omega);have QJ:(n++[r]).length=n.length+1:=by simp
 have e7:(g++[l]).length=g.length+1:=by simp
 refine⟨t,u,f,s,by rw[QJ],by rw[e7],s5,?_,?_,fun m x y e=>?_,?_,?_,k5⟩
 ·rw[QJ,A8]
  refine de (own_below S p ly) fun k o=>?_;obtain⟨_,QL,cs,QR⟩:=aj (own_below S p ly) k o;exact E.block k QL fun e=>by cases e;exact absurd (ar q QR) (by decide)
 ·rw[e7,yU]
  exact o4
 ·rcases D with D | D
  ·have A:f=j:=DC (show T f=T j from D)
   exact h.ap m x y (A ▸ e)
  ·have A:f=QP.heap.size:=DC (show T f=T QP.heap.size from D)
   have:=(aj (QH.seen m x y) _ e).2.1;omega
 ·exact(E.block W.heap.size (ag C) fun e=>by cases e;exact absurd (ar q C) (by decide)).trans C
 ·exact(E.block (W.heap.size+1) (ag QO) fun e=>by have A:=DC e;exact absurd (ar q (A ▸ QO)) (by decide)).trans QO
theorem SI.setOff {b:Nat}{y:Array QE}{t:TypeId}{fz:Nat × Nat}(h:SI w0 hb s0 s1 w making made L md or st)(i:w.heap[b]?=T (Q y t fz))(g:t≠9/\t≠161/\t≠89/\t≠164)(A:w0.heap.size<=b)(j:Nat)(u:QE):SI w0 hb s0 s1 (w.setCell (N b j Z) u) making made L md or st:=by
 have f:∀ {size n:Nat} {l:TypeId} {q:QE} {p:List QE},w.ownsRow w0.heap.size l size q n p->t≠l->(w.setCell (N b j Z) u).ownsRow w0.heap.size l size q n p:=fun o r=>ay o (fun e=>by
  obtain⟨_,_,cs2,z⟩:=aj o b e
  exact r (ar i z)) _ _
 refine⟨h.bel.setCell A u,h.hbB,h.box.blk (qh _ _ _ _ fun e=>?_),f h.rmd g.2.1,f h.ror g.1,f h.rst g.1,h.apart,fun m s x=>f (h.seen m s x) g.2.2.2⟩;simp at e;subst e;exact g.2.2.1 (ar i h.box)
theorem SB.step {W wr q:G}{r j g i:QE}{s:List aC}{x:List Lk}{t y n z:Nat}{b:List Ent}{l:List SM}(h:SB w0 hb s0 s1 W making r wr s x made L md or st t y n z)(f:KS w0.heap.size XN wr q)(QR:SI w0 hb s0 s1 q making b l j g i)(hX:LExt wr.heap.size L l):SB w0 hb s0 s1 W making r q s x b l j g i t y n z:=by
 refine⟨QR,de h.r6 fun k o=>?_,de h.r7 fun k o=>?_,fun m A B e=>?_,(f.blk _ _ _ _ h.kp (by decide) (by decide) (by decide) fun h=>h).trans h.kp,(f.blk _ _ _ _ h.kr (by decide) (by decide) (by decide) fun h=>h).trans h.kr,h.kx.to f⟩
 ·obtain⟨_,_,C,p⟩:=aj h.r6 k o
  exact f.blk _ _ _ _ p (by decide) (by decide) (by decide) fun h=>h
 ·obtain⟨_,_,C,p⟩:=aj h.r7 k o
  exact f.blk _ _ _ _ p (by decide) (by decide) (by decide) fun h=>h
 ·rcases hX.sn m A B with ⟨m0,D,u,E⟩ | h1
  ·exact h.ap m0 D u (by rw[E];exact e)
  ·have h2:=h1 _ e
   have h3:=(aj h.r7 n rfl).2.1;omega
theorem SB.setOff {W wr:G}{l:QE}{m:List aC}{r:List Lk}{g s p x b:Nat}{o:Array QE}{t:TypeId}(h:SB w0 hb s0 s1 W making l wr m r made L md or st g s p x)(f:wr.heap[b]?=T (Q o t (0,0)))(n:t≠9/\t≠161/\t≠89/\t≠164)(hB:w0.heap.size<=W.heap.size)(hb1:W.heap.size+2<=b)(q:b≠g)(j:Nat)(u:QE):SB w0 hb s0 s1 W making l (wr.setCell (N b j Z) u) m r made L md or st g s p x/\(wr.setCell (N b j Z) u).heap[b]?=T (Q (o.setIfInBounds j u) t (0,0)):=by refine⟨⟨h.si.setOff f n (by omega) j u,ay h.r6 (fun e=>q (DC e).symm) _ _,ay h.r7 (fun e=>?_) _ _,h.ap,(qh _ _ _ _ (show W.heap.size≠b by omega)).trans h.kp,(qh _ _ _ _ (show W.heap.size+1≠b by omega)).trans h.kr,h.kx.trans (KS.setCell (X:=fun i=>i=b) _ (by omega) (Or.inl rfl) u) fun i hi y=>by have e2:i=b:=y;omega⟩,aA f u⟩;obtain⟨_,_,cs2,z⟩:=aj h.r7 b e;exact n.2.2.2 (ar f z)
theorem Bc {S:Spc}{x:Ent}(h:EG S x):∃ j m f g l,du x=⟨j,m,[]⟩/\iy x=⟨f,g,l⟩/\(gv S x.name=QB/\j=4/\f=QB/\g=0/\l=⟨#[]⟩∨gv S x.name=QD/\f=QD/\g=j/\l=m):=by
 unfold du iy gv;rw[ik,ik];rcases h.kind with ⟨b,_,_,i,hi,_⟩ | ⟨b,o,p,_,n,h1⟩ | ⟨b,_,h1⟩
 ·exact⟨x.code,x.text,QD,x.code,x.text,by rw[cM (by omega)],by simp[b],.inr ⟨by rw[hi];rfl,rfl,rfl,rfl⟩⟩
 ·exact⟨4,x.name,QB,0,⟨#[]⟩,by rw[gM b],by simp[b,o,p],.inl ⟨by rw[n,h1];rfl,rfl,rfl,rfl,rfl⟩⟩
 ·exact⟨x.code,x.text,QD,x.code,x.text,by rw[cM (by omega)],by simp[b],.inr ⟨by rw[h1];simp,rfl,rfl,rfl⟩⟩
end
section
variable {w0:G}{S:Spc}{a0 a1:Option Addr}{c0 c1 hb:Nat}{making:List ByteArray}
theorem Bd (C:lA w0 S a0 a1)(n:Nat)(HK:mE w0 S hb (Y a0 S.n0 c0) (Y a1 S.n1 c1) n)(z:List Ent)(L0:List SM)(Fa Fe Fj:QE)(w:G)(a:Option Addr)(cap tg:Nat)(Gt:making.length+n=60)(h:SI w0 hb (Y a0 S.n0 c0) (Y a1 S.n1 c1) w making z L0 Fa Fe Fj)(hrel:fe L0 making z)(hp:PG S making z)(Fb:eK S making z 201)(F0:MT S making)(Fc:tg<S.n1)(Gg:SlIns w0 a (S.f1 tg).actN (S.f1 tg).act):Calls Tryz.prog 141 #[.pointer (T (N hb 0 Z)),QG #[Y a (S.f1 tg).actN cap]] w fun e w'=>oB w0 hb (Y a0 S.n0 c0) (Y a1 S.n1 c1) making L0 w e w' (bW S (aZ S n making) tg 201 z [] []):=by
 obtain⟨i6,Gl,Gm,FZ,F9⟩:=eY xA;obtain⟨i7,Ga,FW,Gn,FV⟩:=eY AZ;obtain⟨hok,hc1,Fd⟩:=bN (C.ok.act tg Fc);obtain⟨QO,K,rfl,Gk⟩:∃ QO K,a=T (N QO K Z)/\RowIns w0 QO K (S.f1 tg).actN (S.f1 tg).act:=by
  rcases Gg with h | ⟨b,off,e,hr⟩
  ·omega
  ·exact⟨b,off,e,hr⟩
 have Gx:=ae Gk;have CC:=ae C;have GF:=ae HK;have n6:w0.heap.size<=w.heap.size:=h.lt;have GM:=ae (Bb C.ok Fc);obtain⟨R0,FA⟩:∃ R0,R0=bW S (aZ S n making) tg 201 z [] []:=⟨_,rfl⟩
 rw[<-FA];have GH:=ae FA;have A2:=ae (((q9 w).alloc ly (Q #[Y (T (N QO K Z)) (S.f1 tg).actN cap] 43)).alloc (by simp) (Q #[J I 0,U ⟨#[]⟩,Y Z 0 0] 37));have z2:((w.alloc (Q #[Y (T (N QO K Z)) (S.f1 tg).actN cap] 43)).alloc (Q #[J I 0,U ⟨#[]⟩,Y Z 0 0] 37)).heap.size=w.heap.size+2:=by simp
 have kp:Hid (((w.alloc (Q #[Y (T (N QO K Z)) (S.f1 tg).actN cap] 43)).alloc (Q #[J I 0,U ⟨#[]⟩,Y Z 0 0] 37)).heap[w.heap.size]?=T (Q #[Y (T (N QO K Z)) (S.f1 tg).actN cap] 43 (0,0))) :=
  (((a8 (w.heap.size+1) _).alloc (by simp) _).block w.heap.size (by omega)).trans (eT w _)
 have kr:Hid (((w.alloc (Q #[Y (T (N QO K Z)) (S.f1 tg).actN cap] 43)).alloc (Q #[J I 0,U ⟨#[]⟩,Y Z 0 0] 37)).heap[w.heap.size+1]?=T (Q #[J I 0,U ⟨#[]⟩,Y Z 0 0] 37 (0,0))):=by have h2:=eT (w.alloc (Q #[Y (T (N QO K Z)) (S.f1 tg).actN cap] 43)) (Q #[J I 0,U ⟨#[]⟩,Y Z 0 0] 37);rw[show(w.alloc (Q #[Y (T (N QO K Z)) (S.f1 tg).actN cap] 43)).heap.size=w.heap.size+1 by simp] at h2;exact h2
 have E9:=ae (h.below A2 ly);have FM:=ae hrel;have FP:=ae hp;have Ge:=ae Fb;have GO:=ae F0;clear h C HK Gk Gg FA hrel hp Fb F0;go_enter Tryz.func141,Tryz.ntmps141;go_upto_region 1 with fail;generalize (w.alloc (Q #[Y (T (N QO K Z)) (S.f1 tg).actN cap] 43)).alloc (Q #[J I 0,U ⟨#[]⟩,Y Z 0 0] 37)=W2 at A2 z2 kp kr E9 ⊢;have hzW2:w.heap.size+2<=W2.heap.size:=by omega
 clear z2;have A3:=ae ((q9 W2).alloc ly (Q #[] 156));have O6:=ae (ki W2 156 3);go_upto_region 2 with fail;generalize W2.alloc (Q #[] 156)=W3 at A3 O6 ⊢;have A4:=ae ((q9 W3).alloc ly (Q #[] 164));have O7:=ae (ki W3 164 3);go_wp2_with fail;generalize W3.alloc (Q #[] 164)=W4 at A4 O7 ⊢;have n8:=ae (A3.trans (A4.mono A3.size));have AW:=ae (A2.trans (n8.mono A2.size));have hw32:W2.heap.size<=W3.heap.size:=A3.size;have Gq:Hid (SB w0 hb (Y a0 S.n0 c0) (Y a1 S.n1 c1) w making (Y (T (N QO K Z)) (S.f1 tg).actN cap) W4 [] [] z L0 Fa Fe Fj W2.heap.size 0 W3.heap.size 0):=by refine⟨E9.below n8 ly,aE (own_below O6 A4 ly) (by omega),aE O7 (by omega),fun m hm hd e=>?_,(n8.block _ (by omega)).trans kp,(n8.block _ (by omega)).trans kr,KS.of_below AW ly n6⟩;have:=(aj (E9.seen m hm hd) _ e).2.1;omega
 have Gs:Hid (SR w0 S hb (Y a0 S.n0 c0) (Y a1 S.n1 c1) w n making tg (Y (T (N QO K Z)) (S.f1 tg).actN cap) L0 R0 W4 [] [] z L0 Fa Fe Fj W2.heap.size 0 W3.heap.size 0) :=
  ⟨Gq,FM,FP,jl S z,Ge,GH.symm,DN _,LExt.refl _ _⟩
 clear Gq O6 O7 A3 A4 A2 n8 AW E9 FM FP Ge kp kr;go_loopg [6,7] 202 (fun g v6 v7 wr=>∃ f H made L md or st g6 c6 g7 c7,v6=Y (T (N g6 0 Z)) (List.length (α:=aC) f) c6/\v7=Y (T (N g7 0 Z)) (List.length (α:=Lk) H) c7/\Hid (SR w0 S hb (Y a0 S.n0 c0) (Y a1 S.n1 c1) w n making tg (Y (T (N QO K Z)) (S.f1 tg).actN cap) L0 R0 wr f H made L md or st g6 c6 g7 c7)/\201 - f.length<=g);case atStart=>exact⟨[],[],z,L0,Fa,Fe,Fj,_,_,_,_,rfl,rfl,Gs,by simp⟩
 case round =>
  clear Gs;obtain⟨f,H,made,L,md,or,st,g6,c6,g7,c7,rfl,rfl,s,hg⟩:=hrel;have k0:wr.cell? (N w.heap.size 0 Z)=T (Y (T (N QO K Z)) (S.f1 tg).actN cap):=by simp[World.cell?,s.sb.kp]
  have hkl:=ag s.sb.kp;have hy:=s.le;have FY:H.length=f.length:=s.rg.len;obtain⟨QL,hT⟩:∃ QL,QL=bH S tg f:=⟨_,rfl⟩
  have HT:=ae hT;have Gi:=ae FY;clear hT FY;go_wp2_with fail;refine(mj QO K (S.f1 tg).actN cap g6 0 f.length c6 (S.f1 tg).act (yL f) wr (by omega) (Gx.below s.sb.si.bel ly) (Dr s.sb.r6) GM).mono ?_;rintro e M ⟨he,QK⟩;rw[yV CC.ok Fc s.rg.good s.le,<-HT.out] at he;subst he;have GS:=ae (s.sb.below QK ly);have FD:=ae (kY CC.ok Fc s.rg.good);rw[<-HT.out] at FD;clear QK k0;obtain⟨over,code,text,ask,name,steps⟩:=QL;simp only[Turn.v];have A5:=ae ((q9 M).alloc ly (Q #[QC over,J I code,U text,QC ask,U name,J I steps] 150));have kt:Hid (TBx (M.alloc (Q #[QC over,J I code,U text,QC ask,U name,J I steps] 150)) M.heap.size over code text ask name steps):=eT _ _;obtain⟨t0,t1,t2,t3,t4⟩:=kt.cells;have o:=ae (GS.below A5 ly);cases over with
  | true =>
   have Gw:Hid (R0=.inl (made,(⟨QD,code,text,ask,name,steps⟩,H))):=by show _=_;rw[<-s.run,show 201 - f.length=(200 - f.length)+1 by omega,bW,<-HT.out,gM rfl]
   obtain⟨rl,r0,r1,r2,rf⟩:=aY o.kr;have FU:=rf 0;have F8:=rf 1;have FO:=rf 2;clear rf;go_wp2_with fail;generalize M.alloc (Q #[QC QD,J I code,U text,QC ask,U name,J I steps] 150)=W5 at A5 kt o r0 r1 r2 FU F8 FO rl t0 t1 t2 t3 t4 ⊢;refine bp (v:=.tuple #[QG #[J I code,U text,Y Z 0 0],Y (T (N g7 0 Z)) H.length c7]) (by simp[results,Tryz.results141,go_sem,r0,r1,r2]) rfl ?_;have QH:w0.heap.size<=w.heap.size+1:=by omega
   have x0:=o.si.setOff o.kr ⟨by decide,by decide,by decide,by decide⟩ QH 0 (J I code);have y0:=aA o.kr (j:=0) (J I code);have x1:=x0.setOff y0 ⟨by decide,by decide,by decide,by decide⟩ QH 1 (U text);have y1:=aA y0 (j:=1) (U text);have x2:=x1.setOff y1 ⟨by decide,by decide,by decide,by decide⟩ QH 2 (Y Z 0 0);have th:g7≠w.heap.size+1:=fun e=>by obtain⟨_,_,cs,hc⟩:=aj o.r7 g7 rfl;exact absurd (ar (e ▸ hc) o.kr) (by decide)
   rw[Gw.out];refine⟨L,md,or,st,g7,c7,rfl,x2,s.rel,ay (ay (ay o.r7 (fun e=>th (DC e)) _ _) (fun e=>th (DC e)) _ _) (fun e=>th (DC e)) _ _,o.ap,s.ext,?_⟩;refine((o.kx.trans (KS.setCell (X:=fun i=>i=w.heap.size+1) W5 QH (Or.inl rfl) (J I code)) ?_).trans (KS.setCell (X:=fun i=>i=w.heap.size+1) _ QH (Or.inl rfl) (U text)) ?_).trans (KS.setCell (X:=fun i=>i=w.heap.size+1) _ QH (Or.inl rfl) (Y Z 0 0)) ?_;all_goals
    intro i hi h;have e2:i=w.heap.size+1:=h;omega
  | false =>
   have hyl:f.length<200:=by
    rcases FD.out with h | h
    ·exact absurd h.1 (by simp)
    ·exact h.2.1
   have HN:Hid (au name=QD):=by
    rcases FD.out with h | h
    ·exact absurd h.1 (by simp)
    ·exact h.2.2
   cases ask with
   | false =>
    have A:=s.run;rw[show 201 - f.length=(200 - f.length)+1 by omega,bW,<-HT.out,cM (by simp),gM rfl] at A;obtain⟨QP,CD⟩:∃ QP,QP=gv S name:=⟨_,rfl⟩
    have Gb:=ae CD;simp only at A;rw[<-CD] at A;have NX:=ae A;clear A CD;go_wp2_with fail;clear t0 t1 t2 t3 t4;generalize M.alloc (Q #[QC QB,J I code,U text,QC QB,U name,J I steps] 150)=W5 at A5 kt o ⊢;obtain⟨V,b0,b1,-⟩:=o.si.box.facts;refine(oA CC W5 name o.si.bel V b0 b1).mono ?_;rintro e QR ⟨he,QK⟩;rw[<-Gb.out] at he;subst he;have E:=ae (o.below QK ly);have aq:Hid (TBx QR M.heap.size QB code text QB name steps):=(QK.block _ (ag kt)).trans kt;clear QK b0 b1 V;have q:=ae ((q9 QR).alloc ly (Q #[QC QP,J I 0,U ⟨#[]⟩] 156));have RA:=ae (own_below E.r6 q ly);have Fy:w.heap.size<=QR.heap.size:=E.kx.below.size
    go_upto_region 9 with (first
     | (at_builtin;refine bu _ rfl (.tmp 32) (.tmp 35) 153 rfl w.heap.size 156 i6 (QG #[QC QB,J I 0,U ⟨#[]⟩]) 3 32 Tryz.underlying153 Gl Gm FZ F9 rfl (by decide) (Y (T (N g6 0 Z)) f.length c6) f.length (lC f) (by simp[Act.eval]) RA.out (N QR.heap.size 0 Z) 1 1 [QC QP,J I 0,U ⟨#[]⟩] (by simp[Act.eval]) rfl (iO QR _ _ _ _) (by simp[Value.oneCell']) (by unfold maxLen;omega) (by omega) (by simp<;>omega) ?_;intro v3 u ex QM Bk;have O3:=ae ex;have G3:=ae QM;clear ex QM Bk)
     | fail)
    have mv:Hid (∀ (k:Nat) (cs:Array QE) (t:TypeId) (fz:Nat × Nat),(QR.alloc (Q #[QC QP,J I 0,U ⟨#[]⟩] 156)).heap[k]?=T (Obj.cells cs t fz)->t≠156->u.heap[k]?=(QR.alloc (Q #[QC QP,J I 0,U ⟨#[]⟩] 156)).heap[k]?):=fun k cs t fz hk ht=>G3.block k (ag hk) fun e=>by obtain⟨_,_,Gv,Fd⟩:=aj RA k e.symm;exact ht (ar hk Fd)
    have n9:Hid (TBx u M.heap.size QB code text QB name steps):=by have h0:=(q.block _ (ag aq)).trans aq;exact(mv _ _ _ _ h0 (by decide)).trans h0
    have Fo:Hid (u.ownsRow w.heap.size 164 3 (Y (T (N g7 0 Z)) H.length c7) H.length (dW H)):=de (own_below E.r7 q ly) fun k hk=>by obtain⟨_,_,cs,hc⟩:=aj (own_below E.r7 q ly) k hk;exact mv _ _ _ _ hc (by decide)
    obtain⟨-,-,-,-,n4⟩:=n9.cells;have GW:=ag n9.out;have A7:=ae ((q9 u).alloc ly (Q #[U name,QC QB,QC QP] 164));have RS:=ae (own_below Fo A7 ly);have GN:w.heap.size<=u.heap.size:=p9 (p9 Fy (by simp<;>omega)) G3.size;have DE:=Gi.out;obtain⟨O,QJ⟩:∃ O,O=H.length:=⟨_,rfl⟩
    have FK:O<=200:=by omega
    have Ft:=ae QJ;rw[<-QJ] at RS ⊢;clear DE QJ
    go_wp2_with (first
     | (at_builtin;refine bu _ rfl (.tmp 37) (.tmp 42) 159 rfl w.heap.size 164 i7 (QG #[U ⟨#[]⟩,QC QB,QC QB]) 3 24 Tryz.underlying159 Ga FW Gn FV rfl (by decide) (Y (T (N g7 0 Z)) O c7) O (dW H) (by simp[Act.eval]) RS.out (N u.heap.size 0 Z) 1 1 [U name,QC QB,QC QP] (by simp[Act.eval]) rfl (iO u _ _ _ _) (by simp[Value.oneCell']) (by unfold maxLen;omega) (by omega) (by simp<;>omega) ?_;intro v4 w4 bt QN ld;have O4:=ae bt;have G4:=ae QN;have Fp:=ae ld;clear bt QN ld)
     | fail)
    obtain⟨FH,Fv,Fn,Fl,e6,e7,FC⟩:=E.more (r:=⟨QP,0,⟨#[]⟩⟩) (l:=⟨name,QB,QP⟩) n6 q O3 G3 A7 (by rw[<-Ft.out];exact O4) G4 Fp;have D:(f++[(⟨QP,0,⟨#[]⟩⟩:aC)]).length=f.length+1:=by simp
    have FF:Hid (SR w0 S hb (Y a0 S.n0 c0) (Y a1 S.n1 c1) w n making tg (Y (T (N QO K Z)) (S.f1 tg).actN cap) L0 R0 w4 (f++[⟨QP,0,⟨#[]⟩⟩]) (H++[⟨name,QB,QP⟩]) made L md or st FH Fv Fn Fl) :=
     ⟨FC,s.rel,s.pg,(s.rg.add (by rw[Gb.out];exact mP _ _) HN (fun h=>by cases h)),(by rw[D,show 201 - (f.length+1)=200 - f.length by omega];exact(by have:=s.room;unfold eK at this ⊢;omega)),(by rw[D,show 201 - (f.length+1)=200 - f.length by omega];exact NX),(by rw[D];omega),s.ext⟩
    obtain⟨g,rfl⟩:∃ g,gk=g+1:=⟨gk - 1,by omega⟩
    go_roundg g;case measure=>omega
    case rel=>exact⟨_,_,_,_,_,_,_,_,_,_,_,e6,e7,FF,by rw[D];omega⟩
   | true =>
    have A:=s.run;rw[show 201 - f.length=(200 - f.length)+1 by omega,bW,<-HT.out,cM (by simp),cM (by simp)] at A;simp only at A;go_wp2_with fail;clear t0 t1 t2 t3 t4;generalize M.alloc (Q #[QC QB,J I code,U text,QC QD,U name,J I steps] 150)=W5 at A5 kt o ⊢;refine(GF making made L md or st W5 name Gt o.si s.rel s.pg (by have:=s.room;unfold eK at this ⊢;omega) GO HN).mono ?_;intro e QR R;have HQ:(∃ B x,aZ S n making made name=.inl (B,x))∨∃ (r:ji) (va:Option Addr) (vn vk:Nat),e=QF (gH r (Y va vn vk))/\ip w0 hb QR r (Y va vn vk)/\KS w0.heap.size XN W5 QR/\Hid (∀ vs w',ip w0 hb w' r (Y va vn vk)->KS w0.heap.size XN w w'->oB w0 hb (Y a0 S.n0 c0) (Y a1 S.n1 c1) making L0 w (QF (.tuple #[gH r (Y va vn vk),vs])) w' R0):=by
     rcases hr:aZ S n making made name with ⟨B,x⟩ | c | d
     ·exact .inl ⟨_,_,rfl⟩
     all_goals
      rw[hr] at R A;dsimp only at A;subst A
     ·obtain⟨ca,ck,rfl,hd,hK⟩:=R
      exact .inr ⟨_,_,_,_,rfl,hd,hK,fun vs w' h1 h2=>⟨ca,ck,vs,rfl,h1,h2⟩⟩
     ·obtain⟨rfl,hd,hK⟩:=R
      exact .inr ⟨_,_,_,_,rfl,hd,hK,fun vs w' h1 h2=>⟨vs,rfl,h1,h2⟩⟩
    rcases HQ with ⟨B,x,hr⟩ | ⟨r,va,vn,vk,rfl,⟨q0,q1,qm,qo,qs,Ff,F3⟩,hK,fin⟩
    ·rw[hr] at R A
     dsimp only at A;obtain⟨L2,GV,GU,GK,rfl,Gf,Fw,Fk,hK⟩:=R;obtain⟨Fi,⟨more,DS⟩,hx,FJ⟩:=ej CC.ok n making made name B x s.pg HN hr;have DQ:=kW S n making made name B x hr;have Fx:∀ y∈made,y∈B:=fun y hy=>by rw[DS];exact IS _ hy
     have Fu:=ae (o.step hK Gf Fk);have GC:=ae Fw;have GP:=ae Fi;have Gj:Hid (RG S B (f++[iy x]) (H++[⟨name,QD,QB⟩])):=(s.rg.mono Fx).add (mQ (Fi.ents x hx)) HN (fun _=>⟨x,hx,FJ⟩);have GA:Hid (eK S making B (200 - f.length)):=by have:=s.room;unfold eK at this ⊢;unfold fM at DQ;show _<=_;omega
     have GQ:=ae (s.ext.trans Fk o.kx.below.size);have qr:Hid (TBx QR M.heap.size QB code text QD name steps):=(hK.blk _ _ _ _ kt (by decide) (by decide) (by decide) fun h=>h).trans kt;have NX:=ae A;obtain⟨rc,rt,ob,oc,ot,FQ,F1,F7⟩:=Bc (Fi.ents x hx);rw[F1] at Gj NX;have hz25:W5.heap.size<=QR.heap.size:=hK.below.size;have hg65:g6<W5.heap.size:=(aj o.r6 g6 rfl).2.1;have hw25:w.heap.size+2<=W5.heap.size:=ag o.kr;rw[FJ] at F7;simp only[FQ];clear Gf Fw Fk hK Fi DS hx FJ DQ Fx hr A FQ F1;have q:=ae ((q9 QR).alloc ly (Q #[J I rc,U rt,Y Z 0 0] 37));have Fq:Hid ((QR.alloc (Q #[J I rc,U rt,Y Z 0 0] 37)).heap[QR.heap.size]?=T (Q #[J I rc,U rt,Y Z 0 0] 37 (0,0))):=eT _ _;obtain⟨V,-,-,-,-,-,-,-,-,b8,-⟩:=Fu.si.box.facts;have d8:=(q.cell (p:=(N hb 8 Z)) V).trans b8;obtain⟨rl,r0,r1,-,-⟩:=aY Fq;go_upto_region 13 with fail;clear d8 b8;generalize QR.alloc (Q #[J I rc,U rt,Y Z 0 0] 37)=W6 at q Fq r0 r1 rl ⊢;have A7:=ae ((q9 W6).alloc ly (Q #[QC QD,J I rc,U rt] 156));have ky:Hid ((W6.alloc (Q #[QC QD,J I rc,U rt] 156)).heap[W6.heap.size]?=T (Q #[QC QD,J I rc,U rt] 156 (0,0))):=eT _ _;go_upto_region 14 with fail;generalize W6.alloc (Q #[QC QD,J I rc,U rt] 156)=W8 at A7 ky ⊢;have Gr:=ae (q.trans (A7.mono q.size));have n7:=ae (Fu.below Gr ly);have ph:Hid (TBx W8 M.heap.size QB code text QD name steps):=(Gr.block _ (ag qr)).trans qr;have r7:=(A7.cell (p:=(N QR.heap.size 0 Z)) rl).trans r0;have sm:QR.heap.size<W8.heap.size:=lj rl A7.size;obtain⟨-,-,-,-,tn⟩:=ph.cells;have la:=ag ph.out;obtain⟨P,Gh⟩:∃ P,P=W6.heap.size:=⟨_,rfl⟩
     rw[<-Gh] at ky ⊢;have ro:w.heap.size+2<=P:=by have:=q.size;omega
     have At:P≠g6:=by have:=q.size;omega
     clear Gh Fu qr A7 q Fq r0 r1;obtain⟨fd,b0,b1,-⟩:=n7.si.box.facts;rcases F7 with ⟨FG,e4,e3⟩ | ⟨FG,e3⟩
     case' inr=>by_cases h4:rc=4
     all_goals
      have Gp:=ae FG;have E3:=ae e3;clear FG e3
     case' inl =>
      subst e4;go_wp2_with fail;refine(oA CC W8 name n7.si.bel fd b0 b1).mono ?_;rintro e u ⟨he,QK⟩;rw[Gp.out] at he;subst he;have GI:=ae (n7.below QK ly);have Gc:Hid (TBx u M.heap.size QB code text QD name steps):=(QK.block _ la).trans ph;have Fg:=(QK.block _ (ag ky)).trans ky;obtain⟨yl,y0,y1,y2,yf⟩:=aY Fg;have GJ:=yf 0;have Gz:=yf 1;have GT:=yf 2;have x0:=GI.setOff Fg ⟨by decide,by decide,by decide,by decide⟩ n6 ro At 0 (QC QB);have x1:=x0.1.setOff x0.2 ⟨by decide,by decide,by decide,by decide⟩ n6 ro At 1 (J I 0);have x2:=x1.1.setOff x1.2 ⟨by decide,by decide,by decide,by decide⟩ n6 ro At 2 (U ⟨#[]⟩);have E:=ae x2.1;have Fz:M.heap.size≠P:=fun e=>absurd (ar (show u.heap[M.heap.size]?=_ from Gc.out) (e ▸ Fg)) (by decide);have aq:Hid (TBx (((u.setCell (N P 0 Z) (QC QB)).setCell (N P 1 Z) (J I 0)).setCell (N P 2 Z) (U ⟨#[]⟩)) M.heap.size QB code text QD name steps):=(qh _ _ _ _ Fz).trans ((qh _ _ _ _ Fz).trans ((qh _ _ _ _ Fz).trans Gc));have KY:Hid ((((u.setCell (N P 0 Z) (QC QB)).setCell (N P 1 Z) (J I 0)).setCell (N P 2 Z) (U ⟨#[]⟩)).heap[P]?=T (Q #[QC ob,J I oc,U ot] 156 (0,0))):=by rw[E3.1,E3.2.1,E3.2.2];exact x2.2
      clear x0 x1 x2 QK tn b0 b1 fd r7 sm la rl Fg;go_upto_region 16 with fail;clear y0 y1 y2 GJ Gz GT yl;generalize ((u.setCell (N P 0 Z) (QC QB)).setCell (N P 1 Z) (J I 0)).setCell (N P 2 Z) (U ⟨#[]⟩)=W8 at E KY aq ⊢
     case' pos =>
      subst h4;go_wp2_with fail;refine(oA CC W8 name n7.si.bel fd b0 b1).mono ?_;rintro e u ⟨he,QK⟩;rw[Gp.out] at he;subst he;have E:=ae (n7.below QK ly);have aq:Hid (TBx u M.heap.size QB code text QD name steps):=(QK.block _ la).trans ph;have KY:Hid (u.heap[P]?=T (Q #[QC ob,J I oc,U ot] 156 (0,0))):=by rw[E3.1,E3.2.1,E3.2.2];exact(QK.block _ (ag ky)).trans ky
      clear QK tn b0 b1 fd r7 sm la rl;go_upto_region 16 with fail;generalize u=W8 at E KY aq ⊢
     case' neg =>
      have h4b:(rc == 4)=QB:=by simpa using h4
      have E:=n7;have aq:=ph;have KY:Hid (W8.heap[P]?=T (Q #[QC ob,J I oc,U ot] 156 (0,0))):=by rw[E3.1,E3.2.1,E3.2.2];exact ky
      go_upto_region 16 with fail;clear tn b0 b1 fd r7 sm la rl
     all_goals
      obtain⟨yl,y0,y1,y2,-⟩:=aY KY;have q:=ae ((q9 W8).alloc ly (Q #[QC ob,J I oc,U ot] 156));have RA:=ae (own_below E.r6 q ly);have Fy:w.heap.size<=W8.heap.size:=E.kx.below.size
      go_upto_region 17 with (first
       | (at_builtin;refine bu _ rfl (.tmp 73) (.tmp 75) 153 rfl w.heap.size 156 i6 (QG #[QC QB,J I 0,U ⟨#[]⟩]) 3 32 Tryz.underlying153 Gl Gm FZ F9 rfl (by decide) (Y (T (N g6 0 Z)) f.length c6) f.length (lC f) (by simp[Act.eval]) RA.out (N W8.heap.size 0 Z) 1 1 [QC ob,J I oc,U ot] (by simp[Act.eval]) rfl (iO W8 _ _ _ _) (by simp[Value.oneCell']) (by unfold maxLen;omega) (by omega) (by simp<;>omega) ?_;intro v3 u ex QM Bk;have O3:=ae ex;have G3:=ae QM;clear ex QM Bk)
       | fail)
      have mv:Hid (∀ (k:Nat) (cs:Array QE) (t:TypeId) (fz:Nat × Nat),(W8.alloc (Q #[QC ob,J I oc,U ot] 156)).heap[k]?=T (Obj.cells cs t fz)->t≠156->u.heap[k]?=(W8.alloc (Q #[QC ob,J I oc,U ot] 156)).heap[k]?):=fun k cs t fz hk ht=>G3.block k (ag hk) fun e=>by obtain⟨_,_,Gv,Fd⟩:=aj RA k e.symm;exact ht (ar hk Fd)
      have n9:Hid (TBx u M.heap.size QB code text QD name steps):=by have h0:=(q.block _ (ag aq)).trans aq;exact(mv _ _ _ _ h0 (by decide)).trans h0
      have Fo:Hid (u.ownsRow w.heap.size 164 3 (Y (T (N g7 0 Z)) H.length c7) H.length (dW H)):=de (own_below E.r7 q ly) fun k hk=>by obtain⟨_,_,cs,hc⟩:=aj (own_below E.r7 q ly) k hk;exact mv _ _ _ _ hc (by decide)
      obtain⟨-,-,-,-,n4⟩:=n9.cells;have GW:=ag n9.out;have A7:=ae ((q9 u).alloc ly (Q #[U name,QC QD,QC QB] 164));have RS:=ae (own_below Fo A7 ly);have GN:w.heap.size<=u.heap.size:=p9 (p9 Fy (by simp<;>omega)) G3.size;have DE:=Gi.out;obtain⟨O,QJ⟩:∃ O,O=H.length:=⟨_,rfl⟩
      have FK:O<=200:=by omega
      have Ft:=ae QJ;rw[<-QJ] at RS ⊢;clear DE QJ
      go_wp2_with (first
       | (at_builtin;refine bu _ rfl (.tmp 77) (.tmp 81) 159 rfl w.heap.size 164 i7 (QG #[U ⟨#[]⟩,QC QB,QC QB]) 3 24 Tryz.underlying159 Ga FW Gn FV rfl (by decide) (Y (T (N g7 0 Z)) O c7) O (dW H) (by simp[Act.eval]) RS.out (N u.heap.size 0 Z) 1 1 [U name,QC QD,QC QB] (by simp[Act.eval]) rfl (iO u _ _ _ _) (by simp[Value.oneCell']) (by unfold maxLen;omega) (by omega) (by simp<;>omega) ?_;intro v4 w4 bt QN ld;have O4:=ae bt;have G4:=ae QN;have Fp:=ae ld;clear bt QN ld)
       | fail)
      obtain⟨FH,Fv,Fn,Fl,e6,e7,FC⟩:=E.more (r:=⟨ob,oc,ot⟩) (l:=⟨name,QD,QB⟩) n6 q O3 G3 A7 (by rw[<-Ft.out];exact O4) G4 Fp;have D:(f++[(⟨ob,oc,ot⟩:aC)]).length=f.length+1:=by simp
      have FF:Hid (SR w0 S hb (Y a0 S.n0 c0) (Y a1 S.n1 c1) w n making tg (Y (T (N QO K Z)) (S.f1 tg).actN cap) L0 R0 w4 (f++[⟨ob,oc,ot⟩]) (H++[⟨name,QD,QB⟩]) B L2 GV GU GK FH Fv Fn Fl) :=
       ⟨FC,GC,GP,Gj,(by rw[D,show 201 - (f.length+1)=200 - f.length by omega];exact GA),(by rw[D,show 201 - (f.length+1)=200 - f.length by omega];exact NX),(by rw[D];omega),GQ⟩
      obtain⟨g,rfl⟩:∃ g,gk=g+1:=⟨gk - 1,by omega⟩
      go_roundg g;case measure=>omega
      case rel=>exact⟨_,_,_,_,_,_,_,_,_,_,_,e6,e7,FF,by rw[D];omega⟩
    ·clear R A
     obtain⟨V,-,-,-,-,-,b5,b6,b7,b8,-⟩:=Ff.facts;have Fh:=(hK.blk _ _ _ _ o.kr (by decide) (by decide) (by decide) fun h=>h).trans o.kr;have KW:=ae (o.kx.to hK);have GL:=ae Ff;have FX:=ae F3;have q:=ae ((q9 QR).alloc ly (Q #[J I r.code,U r.text,Y va vn vk] 37));have Fm:=(q.block _ (ag Fh)).trans Fh;obtain⟨rl,r0,r1,r2,rf⟩:=aY Fm;have d5:=(q.cell (p:=(N hb 5 Z)) V).trans b5;have d6:=(q.cell (p:=(N hb 6 Z)) V).trans b6;have d7:=(q.cell (p:=(N hb 7 Z)) V).trans b7;have d8:=(q.cell (p:=(N hb 8 Z)) V).trans b8;have FU:=rf 0;have F8:=rf 1;have FO:=rf 2;have ur:hb≠w.heap.size+1:=fun e=>absurd (ar (e ▸ Ff) Fh) (by decide);have Gy:=ae Fm;clear rf Ff F3 hK b5 b6 b7 b8 Fh Fm;simp only[gH];go_wp2_with fail;refine bp (v:=.tuple #[gH r (Y va vn vk),Y (T (N g7 0 Z)) H.length c7]) (by simp[results,Tryz.results141,go_sem,r0,r1,r2,gH]) rfl ?_;have QH:w0.heap.size<=w.heap.size+1:=by omega
     have Gu:∀ (W:G) (v0 v1 v2:QE),(((W.setCell (N (w.heap.size+1) 0 Z) v0).setCell (N (w.heap.size+1) 1 Z) v1).setCell (N (w.heap.size+1) 2 Z) v2).heap[hb]?=W.heap[hb]?:=fun W v0 v1 v2=>(qh _ _ _ _ ur).trans ((qh _ _ _ _ ur).trans (qh _ _ _ _ ur));have Fs:∀ k,(Value.slice va vn vk).ownBlock=T k->k≠w.heap.size+1:=fun k hk e=>by obtain⟨_,_,cs,hc⟩:=aj (own_below FX q ly) k hk;exact absurd (ar (e ▸ hc) Gy) (by decide)
     refine fin (Y (T (N g7 0 Z)) H.length c7) _ ⟨q0,q1,qm,qo,qs,(Gu _ _ _ _).trans ((q.block _ V).trans GL),ay (ay (ay (own_below FX q ly) (fun e=>Fs _ e rfl) _ _) (fun e=>Fs _ e rfl) _ _) (fun e=>Fs _ e rfl) _ _⟩ ?_;refine((((KW.to (KS.of_below q ly (p9 n6 KW.below.size))).trans (KS.setCell (X:=fun i=>i=w.heap.size+1) _ QH (Or.inl rfl) _) ?_).trans (KS.setCell (X:=fun i=>i=w.heap.size+1) _ QH (Or.inl rfl) _) ?_).trans (KS.setCell (X:=fun i=>i=w.heap.size+1) _ QH (Or.inl rfl) _) ?_);all_goals
      intro i hi h;have e2:i=w.heap.size+1:=h;omega
end
end Go.Proofs.YtamacmnikdejeaaGreatDoor.Vp
