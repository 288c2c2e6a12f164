import Derived.Test.YtamacmnikdejeaaGreatDoorXK
import Derived.Test.YtamacmnikdejeaaGreatDoorYZ
import Derived.Deep.Cut
set_option maxRecDepth 1000000
set_option maxHeartbeats 8000000
open Go.Addr renaming mk->T
open Go.Value renaming slice->Y,string->U,int->I,bool->QT,agg->QV
open Option renaming none->Z,some->N
open Go.Obj renaming cells->Q
open Go.IntKind renaming i64->J
open Go renaming World->H,Value->QS
open Bool renaming false->QQ,true->QR
open Go.Ending renaming returned->QU
namespace Go.Proofs.YtamacmnikdejeaaGreatDoor.Vp
open RowKit
structure SB (w0:H)(hb:Nat)(s0 s1:QS)(w:H)(making:List ByteArray)(pv:QS)(wr:H)(ys:List aI)(ls:List Lk)(made:List Ent)(L:List SM)(md or st:QS)(g6 c6 g7 c7:Nat):Prop where
 si:SI w0 hb s0 s1 wr making made L md or st
 r6:wr.ownsRow w.heap.size 156 3 (Y (N (T g6 0 Z)) ys.length c6) ys.length (mc ys)
 r7:wr.ownsRow w.heap.size 164 3 (Y (N (T g7 0 Z)) ls.length c7) ls.length (eB ls)
 ap:∀ m∈L,m.done=QR->m.sv.ownBlock≠N g7
 kp:wr.heap[w.heap.size]?=N (Q #[pv] 43 (0,0))
 kr:wr.heap[w.heap.size+1]?=N (Q #[I J 0,U ⟨#[]⟩,Y Z 0 0] 37 (0,0))
 kx:KS w0.heap.size XN w wr
structure SR (w0:H)(S:Spc)(hb:Nat)(s0 s1:QS)(w:H)(n:Nat)(making:List ByteArray)(tg:Nat)(pv:QS)(L0:List SM)(R0:Out (Turn × List Lk))(wr:H)(ys:List aI)(ls:List Lk)(made:List Ent)(L:List SM)(md or st:QS)(g6 c6 g7 c7:Nat):Prop where
 sb:SB w0 hb s0 s1 w making pv wr ys ls made L md or st g6 c6 g7 c7
 rel:fA L making made
 pg:PG S making made
 rg:RG S made ys ls
 room:fc S making made (201 - ys.length)
 run:ct S (aX S n making) tg (201 - ys.length) made ys ls=R0
 le:ys.length<=200
 ext:LExt w.heap.size L0 L
def TBx (w:H)(g:Nat)(over:Bool)(code:Int)(text:ByteArray)(ask:Bool)(name:ByteArray)(steps:Int):Prop:=w.heap[g]?=N (Q #[QT over,I J code,U text,QT ask,U name,I J steps] 150 (0,0))
theorem TBx.cells {w:H}{g:Nat}{over:Bool}{code:Int}{text:ByteArray}{ask:Bool}{name:ByteArray}{steps:Int}(h:TBx w g over code text ask name steps):w.cell? (T g 0 Z)=N (QT over)/\w.cell? (T g 1 Z)=N (I J code)/\w.cell? (T g 2 Z)=N (U text)/\w.cell? (T g 3 Z)=N (QT ask)/\w.cell? (T g 4 Z)=N (U name):=by unfold TBx at h;refine⟨?_,?_,?_,?_,?_⟩;all_goals simp[World.cell?,h]
def oX (w0:H)(hb:Nat)(s0 s1:QS)(making:List ByteArray)(L:List SM)(w:H)(e:Ending)(w':H):Out (Turn × List Lk)->Prop
 | .inl (made',x)=>∃ b f h i g c,e=QU (.tuple #[QV #[I J x.1.code,U x.1.text,Y Z 0 0],Y (N (T g 0 Z)) x.2.length c])/\SI w0 hb s0 s1 w' making made' b f h i/\fA b making made'/\w'.ownsRow w.heap.size 164 3 (Y (N (T g 0 Z)) x.2.length c) x.2.length (eB x.2)/\(∀ m∈b,m.done=QR->m.sv.ownBlock≠N g)/\LExt w.heap.size L b/\KS w0.heap.size XN w w'
 | .inr (.inl c)=>∃ a k sv,e=QU (.tuple #[iB (jn c) (Y a c.length k),sv])/\iV w0 hb w' (jn c) (Y a c.length k)/\KS w0.heap.size XN w w'
 | .inr (.inr d)=>∃ sv,e=QU (.tuple #[iB (jo d) (Y Z 0 0),sv])/\iV w0 hb w' (jo d) (Y Z 0 0)/\KS w0.heap.size XN w w'
theorem jp (w:H)(f g c:QS)(t:TypeId):∀ j u,[f,g,c][j]?=N u->(w.alloc (Q #[f,g,c] t)).cell? (((T w.heap.size 0 Z):Addr).add j)=N u:=by
 intro j u h;rw[addr_add];have hj:j<3:=by
  rcases KP j 3 with b | b
  ·exact b
  ·rw[J2 (by simp;omega)] at h;cases h
 rcases(show j=0∨j=1∨j=2 by omega) with rfl | rfl | rfl;all_goals
  simp at h;subst h;simp
theorem aU {w:H}{b:Nat}{f g c:QS}{t:TypeId}(h:w.heap[b]?=N (Q #[f,g,c] t (0,0))):b<w.heap.size/\w.cell? (T b 0 Z)=N f/\w.cell? (T b 1 Z)=N g/\w.cell? (T b 2 Z)=N c/\∀ j,w.frozen? (T b j Z)=QQ:=by refine⟨ah h,?_,?_,?_,fun j=>?_⟩;all_goals simp[World.cell?,World.frozen?,h]
section
variable {w0 w w':H}{hb:Nat}{s0 s1 md or st:QS}{making:List ByteArray}{made:List Ent}{L:List SM}
theorem SI.grown {v:QS}{j size n:Nat}{e:TypeId}{E:List QS}(h:SI w0 hb s0 s1 w making made L md or st)(b:w.grownBy w' v.ownBlock)(D:w.ownsRow j e size v n E)(hB:w0.heap.size<=j)(p:e≠9/\e≠161/\e≠89)(B:∀ m∈L,m.done=QR->∀ k,v.ownBlock=N k->m.sv.ownBlock≠N k):SI w0 hb s0 s1 w' making made L md or st:=by
 have y:=ar D;have r:∀ (i:Nat) (q:Array QS) (t:TypeId) (fz:Nat × Nat),w.heap[i]?=N (Obj.cells q t fz)->t≠e->w'.heap[i]?=w.heap[i]?:=fun i q t fz hi g=>b.block i (ah hi) fun l=>by obtain⟨_,_,cs2,o⟩:=y i l.symm;exact g (au hi o)
 have c:∀ {size n:Nat} {t:TypeId} {u:QS} {A:List QS},w.ownsRow w0.heap.size t size u n A->t≠e->w'.ownsRow w0.heap.size t size u n A:=fun z g=>dx z fun k f=>by obtain⟨_,_,q,o⟩:=ar z k f;exact r _ _ _ _ o g
 refine⟨h.bel.trans ⟨b.os,b.tape,b.output,b.size,fun k f=>b.block k (lj f h.lt) fun l=>?_⟩,h.hbB,h.box.blk (r _ _ _ _ h.box p.2.2.symm),c h.rmd p.2.1.symm,c h.ror p.1.symm,c h.rst p.1.symm,h.apart,fun m x s=>dx (h.seen m x s) fun k f=>?_⟩
 ·have:=(y k l.symm).1
  omega
 ·obtain⟨_,C,q,o⟩:=ar (h.seen m x s) k f
  exact b.block k C fun l=>B m x s k l.symm f
theorem KS.grow {v:QS}{b size n:Nat}{e:TypeId}{p:List QS}{W:H}{B:Nat}(h:KS B XN W w)(m:w.grownBy w' v.ownBlock)(c:w.ownsRow b e size v n p)(l:W.heap.size<=b)(f:B<=W.heap.size):KS B XN W w' :=
 h.trans (QW:=fun i=>v.ownBlock=N i) (KS.of_grown m (j4 f h.below.size) fun j g=>⟨j4 (j4 f l) (ar c j g).1,.inl g⟩) fun i hi o=>by have:=(ar c i o).1;omega
theorem SB.below {W wr f:H}{g:QS}{l:List aI}{o:List Lk}{i n j m C:Nat}(h:SB w0 hb s0 s1 W making g wr l o made L md or st i n j m)(b:Below C wr f)(c:wr.heap.size<=C):SB w0 hb s0 s1 W making g f l o made L md or st i n j m :=
 ⟨h.si.below b c,own_below h.r6 b c,own_below h.r7 b c,h.ap,(b.block _ (lj (ah h.kp) c)).trans h.kp,(b.block _ (lj (ah h.kr) c)).trans h.kr,h.kx.to (KS.of_below b c h.si.lt)⟩
theorem SB.more {W R QZ E C S:H}{QW QX Q9:QS}{g:List aI}{f:List Lk}{x Q0 i K:Nat}{r:aI}{l:Lk}(h:SB w0 hb s0 s1 W making QW R g f made L md or st x Q0 i K)(M:w0.heap.size<=W.heap.size)
  (b3:Below R.heap.size R QZ) (QY:E.ownsRow W.heap.size 156 3 QX (g.length+1) (mc g++[QT r.has,I J r.code,U r.text])) (ZA:QZ.grownBy E (N x))
  (o:Below E.heap.size E C) (o4:S.ownsRow W.heap.size 164 3 Q9 (f.length+1) (eB f++[U l.name,QT l.ask,QT l.has])) (ZB:C.grownBy S (N i)) (A:Q9.ownBlock=N i∨Q9.ownBlock=N C.heap.size) :
  ∃ q s c t,QX=Y (N (T q 0 Z)) (g++[r]).length s/\Q9=Y (N (T c 0 Z)) (f++[l]).length t/\SB w0 hb s0 s1 W making QW S (g++[r]) (f++[l]) made L md or st q s c t:=by
 have b:=h.below b3 ly;have aq:W.heap.size<QZ.heap.size:=ah b.kp;have la:W.heap.size+1<QZ.heap.size:=ah b.kr;have fd:=ar b.r6 x rfl;obtain⟨hg6,hg6l,cs6,j⟩:=fd
 have s3:=b.si.grown (v:=Y (N (T x 0 Z)) g.length Q0) ZA b.r6 M ⟨by decide,by decide,by decide⟩ (fun m z u k p e=>by
  cases p
  obtain⟨_,_,cs,G⟩:=ar (b.si.seen m z u) x e
  exact absurd (au j G) (by decide))
 have k3:=KS.grow (v:=Y (N (T x 0 Z)) g.length Q0) b.kx ZA b.r6 ly M;have bt:E.ownsRow W.heap.size 164 3 (Y (N (T i 0 Z)) f.length K) f.length (eB f):=dx b.r7 fun k p=>by obtain⟨_,Q2,cs,G⟩:=ar b.r7 k p;exact ZA.block k Q2 fun e=>by cases e;exact absurd (au j G) (by decide)
 have O:=(ZA.block W.heap.size aq fun e=>by cases e;exact absurd (au j b.kp) (by decide)).trans b.kp;have P:=(ZA.block (W.heap.size+1) la fun e=>by have y:=ES e;exact absurd (au j (y ▸ b.kr)) (by decide)).trans b.kr;obtain⟨q,s,cu6,rfl,-⟩:=QY.2.resolve_left (fun h=>by omega);have X:=s3.below o ly;have D:=own_below bt o ly;obtain⟨hg7,hg7l,cs7,n⟩:=ar D i rfl;have F:=(o.block W.heap.size (ah O)).trans O;have B:=(o.block (W.heap.size+1) (ah P)).trans P;have s5:=X.grown (v:=Y (N (T i 0 Z)) f.length K) ZB D M ⟨by decide,by decide,by decide⟩ (fun m z u k p e=>by cases p;exact h.ap m z u e);have k5:=KS.grow (v:=Y (N (T i 0 Z)) f.length K) (k3.to (KS.of_below o ly s3.lt)) ZB D ly M;obtain⟨c,t,cu7,rfl,-⟩:=o4.2.resolve_left (fun h=>by omega);have V:(g++[r]).length=g.length+1:=by simp
 have e7:(f++[l]).length=f.length+1:=by simp
 refine⟨q,s,c,t,by rw[V],by rw[e7],s5,?_,?_,fun m z u e=>?_,?_,?_,k5⟩
 ·rw[V,Do]
  refine dx (own_below QY o ly) fun k p=>?_;obtain⟨_,Q2,cs,G⟩:=ar (own_below QY o ly) k p;exact ZB.block k Q2 fun e=>by cases e;exact absurd (au n G) (by decide)
 ·rw[e7,An]
  exact o4
 ·rcases A with A | A
  ·have y:c=i:=ES (show N c=N i from A)
   exact h.ap m z u (y ▸ e)
  ·have y:c=C.heap.size:=ES (show N c=N C.heap.size from A)
   have:=(ar (X.seen m z u) _ e).2.1;omega
 ·exact(ZB.block W.heap.size (ah F) fun e=>by cases e;exact absurd (au n F) (by decide)).trans F
 ·exact(ZB.block (W.heap.size+1) (ah B) fun e=>by have y:=ES e;exact absurd (au n (y ▸ B)) (by decide)).trans B
theorem SI.setOff {b:Nat}{s:Array QS}{t:TypeId}{fz:Nat × Nat}(h:SI w0 hb s0 s1 w making made L md or st)(g:w.heap[b]?=N (Q s t fz))(f:t≠9/\t≠161/\t≠89/\t≠164)(z:w0.heap.size<=b)(j:Nat)(u:QS):SI w0 hb s0 s1 (w.setCell (T b j Z) u) making made L md or st:=by
 have c:∀ {size n:Nat} {i:TypeId} {l:QS} {q:List QS},w.ownsRow w0.heap.size i size l n q->t≠i->(w.setCell (T b j Z) u).ownsRow w0.heap.size i size l n q:=fun p o=>aA p (fun e=>by
  obtain⟨_,_,cs2,x⟩:=ar p b e
  exact o (au g x)) _ _
 refine⟨h.bel.setCell z u,h.hbB,h.box.blk (qh _ _ _ _ fun e=>?_),c h.rmd f.2.1,c h.ror f.1,c h.rst f.1,h.apart,fun m y r=>c (h.seen m y r) f.2.2.2⟩;simp at e;subst e;exact f.2.2.1 (au g h.box)
theorem SB.step {W wr p:H}{t g i f:QS}{x:List aI}{s:List Lk}{u y j q:Nat}{b:List Ent}{n:List SM}(h:SB w0 hb s0 s1 W making t wr x s made L md or st u y j q)(c:KS w0.heap.size XN wr p)(E:SI w0 hb s0 s1 p making b n g i f)(hX:LExt wr.heap.size L n):SB w0 hb s0 s1 W making t p x s b n g i f u y j q:=by
 refine⟨E,dx h.r6 fun k o=>?_,dx h.r7 fun k o=>?_,fun m B z e=>?_,(c.blk _ _ _ _ h.kp (by decide) (by decide) (by decide) fun h=>h).trans h.kp,(c.blk _ _ _ _ h.kr (by decide) (by decide) (by decide) fun h=>h).trans h.kr,h.kx.to c⟩
 ·obtain⟨_,_,A,l⟩:=ar h.r6 k o
  exact c.blk _ _ _ _ l (by decide) (by decide) (by decide) fun h=>h
 ·obtain⟨_,_,A,l⟩:=ar h.r7 k o
  exact c.blk _ _ _ _ l (by decide) (by decide) (by decide) fun h=>h
 ·rcases hX.sn m B z with ⟨m0,D,r,C⟩ | h1
  ·exact h.ap m0 D r (by rw[C];exact e)
  ·have h2:=h1 _ e
   have h3:=(ar h.r7 j rfl).2.1;omega
theorem SB.setOff {W wr:H}{o:QS}{q:List aI}{n:List Lk}{f r g m b:Nat}{s:Array QS}{t:TypeId}(h:SB w0 hb s0 s1 W making o wr q n made L md or st f r g m)(c:wr.heap[b]?=N (Q s t (0,0)))(l:t≠9/\t≠161/\t≠89/\t≠164)(hB:w0.heap.size<=W.heap.size)(hb1:W.heap.size+2<=b)(p:b≠f)(j:Nat)(u:QS):SB w0 hb s0 s1 W making o (wr.setCell (T b j Z) u) q n made L md or st f r g m/\(wr.setCell (T b j Z) u).heap[b]?=N (Q (s.setIfInBounds j u) t (0,0)):=by refine⟨⟨h.si.setOff c l (by omega) j u,aA h.r6 (fun e=>p (ES e).symm) _ _,aA h.r7 (fun e=>?_) _ _,h.ap,(qh _ _ _ _ (show W.heap.size≠b by omega)).trans h.kp,(qh _ _ _ _ (show W.heap.size+1≠b by omega)).trans h.kr,h.kx.trans (KS.setCell (X:=fun i=>i=b) _ (by omega) (Or.inl rfl) u) fun i hi x=>by have e2:i=b:=x;omega⟩,aB c u⟩;obtain⟨_,_,cs2,y⟩:=ar h.r7 b e;exact l.2.2.2 (au c y)
theorem Dq {S:Spc}{x:Ent}(h:EG S x):∃ g l f c j,dK x=⟨g,l,[]⟩/\i8 x=⟨f,c,j⟩/\(gX S x.name=QQ/\g=4/\f=QQ/\c=0/\j=⟨#[]⟩∨gX S x.name=QR/\f=QR/\c=g/\j=l):=by
 unfold dK i8 gX;rw[iU,iU];rcases h.kind with ⟨b,_,_,i,hi,_⟩ | ⟨b,n,m,_,o,h1⟩ | ⟨b,_,h1⟩
 ·exact⟨x.code,x.text,QR,x.code,x.text,by rw[eI (by omega)],by simp[b],.inr ⟨by rw[hi];rfl,rfl,rfl,rfl⟩⟩
 ·exact⟨4,x.name,QQ,0,⟨#[]⟩,by rw[gA b],by simp[b,n,m],.inl ⟨by rw[o,h1];rfl,rfl,rfl,rfl,rfl⟩⟩
 ·exact⟨x.code,x.text,QR,x.code,x.text,by rw[eI (by omega)],by simp[b],.inr ⟨by rw[h1];simp,rfl,rfl,rfl⟩⟩
end
section
variable {w0:H}{S:Spc}{a0 a1:Option Addr}{c0 c1 hb:Nat}{making:List ByteArray}
theorem Dr (C:lZ w0 S a0 a1)(n:Nat)(HK:nu w0 S hb (Y a0 S.n0 c0) (Y a1 S.n1 c1) n)(z:List Ent)(L0:List SM)(Fn GC GJ:QS)(w:H)(a:Option Addr)(cap tg:Nat)(Iv:making.length+n=60)(h:SI w0 hb (Y a0 S.n0 c0) (Y a1 S.n1 c1) w making z L0 Fn GC GJ)(hrel:fA L0 making z)(hp:PG S making z)(GH:fc S making z 201)(Ia:MT S making)(GE:tg<S.n1)(Io:SlIns w0 a (S.f1 tg).actN (S.f1 tg).act):Calls Tryz.prog 141 #[.pointer (N (T hb 0 Z)),QV #[Y a (S.f1 tg).actN cap]] w fun e w'=>oX w0 hb (Y a0 S.n0 c0) (Y a1 S.n1 c1) making L0 w e w' (ct S (aX S n making) tg 201 z [] []):=by
 obtain⟨i6,Hr,Hx,Hn,Ii⟩:=fw yD;obtain⟨i7,Il,Hu,H6,Iu⟩:=fw Dn;obtain⟨hok,hc1,GI⟩:=cJ (C.ok.act tg GE);obtain⟨Q9,ZA,rfl,Ij⟩:∃ Q9 ZA,a=N (T Q9 ZA Z)/\RowIns w0 Q9 ZA (S.f1 tg).actN (S.f1 tg).act:=by
  rcases Io with h | ⟨b,off,e,hr⟩
  ·omega
  ·exact⟨b,off,e,hr⟩
 have IQ:=ae Ij;have CC:=ae C;have I9:=ae HK;have la:w0.heap.size<=w.heap.size:=h.lt;have Iy:=ae (Dp C.ok GE);obtain⟨R0,Ha⟩:∃ R0,R0=ct S (aX S n making) tg 201 z [] []:=⟨_,rfl⟩
 rw[<-Ha];have I7:=ae Ha;have A2:=ae (((q9 w).alloc ly (Q #[Y (N (T Q9 ZA Z)) (S.f1 tg).actN cap] 43)).alloc (by simp) (Q #[I J 0,U ⟨#[]⟩,Y Z 0 0] 37));have z2:((w.alloc (Q #[Y (N (T Q9 ZA Z)) (S.f1 tg).actN cap] 43)).alloc (Q #[I J 0,U ⟨#[]⟩,Y Z 0 0] 37)).heap.size=w.heap.size+2:=by simp
 have kp:Hid (((w.alloc (Q #[Y (N (T Q9 ZA Z)) (S.f1 tg).actN cap] 43)).alloc (Q #[I J 0,U ⟨#[]⟩,Y Z 0 0] 37)).heap[w.heap.size]?=N (Q #[Y (N (T Q9 ZA Z)) (S.f1 tg).actN cap] 43 (0,0))) :=
  (((eL (w.heap.size+1) _).alloc (by simp) _).block w.heap.size (by omega)).trans (cM w _)
 have kr:Hid (((w.alloc (Q #[Y (N (T Q9 ZA Z)) (S.f1 tg).actN cap] 43)).alloc (Q #[I J 0,U ⟨#[]⟩,Y Z 0 0] 37)).heap[w.heap.size+1]?=N (Q #[I J 0,U ⟨#[]⟩,Y Z 0 0] 37 (0,0))):=by have h2:=cM (w.alloc (Q #[Y (N (T Q9 ZA Z)) (S.f1 tg).actN cap] 43)) (Q #[I J 0,U ⟨#[]⟩,Y Z 0 0] 37);rw[show(w.alloc (Q #[Y (N (T Q9 ZA Z)) (S.f1 tg).actN cap] 43)).heap.size=w.heap.size+1 by simp] at h2;exact h2
 have GD:=ae (h.below A2 ly);have Ic:=ae hrel;have Hq:=ae hp;have Ho:=ae GH;have IL:=ae Ia;clear h C HK Ij Io Ha hrel hp GH Ia;go_enter Tryz.func141,Tryz.ntmps141;go_upto_region 1 with fail;generalize (w.alloc (Q #[Y (N (T Q9 ZA Z)) (S.f1 tg).actN cap] 43)).alloc (Q #[I J 0,U ⟨#[]⟩,Y Z 0 0] 37)=W2 at A2 z2 kp kr GD ⊢;have hzW2:w.heap.size+2<=W2.heap.size:=by omega
 clear z2;have A3:=ae ((q9 W2).alloc ly (Q #[] 156));have O6:=ae (kZ W2 156 3);go_upto_region 2 with fail;generalize W2.alloc (Q #[] 156)=W3 at A3 O6 ⊢;have A4:=ae ((q9 W3).alloc ly (Q #[] 164));have O7:=ae (kZ W3 164 3);go_wp2_with fail;generalize W3.alloc (Q #[] 164)=W4 at A4 O7 ⊢;have ph:=ae (A3.trans (A4.mono A3.size));have AW:=ae (A2.trans (ph.mono A2.size));have hw32:W2.heap.size<=W3.heap.size:=A3.size;have Ik:Hid (SB w0 hb (Y a0 S.n0 c0) (Y a1 S.n1 c1) w making (Y (N (T Q9 ZA Z)) (S.f1 tg).actN cap) W4 [] [] z L0 Fn GC GJ W2.heap.size 0 W3.heap.size 0):=by refine⟨GD.below ph ly,aE (own_below O6 A4 ly) (by omega),aE O7 (by omega),fun m hm hd e=>?_,(ph.block _ (by omega)).trans kp,(ph.block _ (by omega)).trans kr,KS.of_below AW ly la⟩;have:=(ar (GD.seen m hm hd) _ e).2.1;omega
 have Im:Hid (SR w0 S hb (Y a0 S.n0 c0) (Y a1 S.n1 c1) w n making tg (Y (N (T Q9 ZA Z)) (S.f1 tg).actN cap) L0 R0 W4 [] [] z L0 Fn GC GJ W2.heap.size 0 W3.heap.size 0) :=
  ⟨Ik,Ic,Hq,jJ S z,Ho,I7.symm,AI _,LExt.refl _ _⟩
 clear Ik O6 O7 A3 A4 A2 ph AW GD Ic Hq Ho kp kr;go_loopg [6,7] 202 (fun g v6 v7 wr=>∃ f G made L md or st g6 c6 g7 c7,v6=Y (N (T g6 0 Z)) (List.length (α:=aI) f) c6/\v7=Y (N (T g7 0 Z)) (List.length (α:=Lk) G) c7/\Hid (SR w0 S hb (Y a0 S.n0 c0) (Y a1 S.n1 c1) w n making tg (Y (N (T Q9 ZA Z)) (S.f1 tg).actN cap) L0 R0 wr f G made L md or st g6 c6 g7 c7)/\201 - f.length<=g);case atStart=>exact⟨[],[],z,L0,Fn,GC,GJ,_,_,_,_,rfl,rfl,Im,by simp⟩
 case round =>
  clear Im;obtain⟨f,G,made,L,md,or,st,g6,c6,g7,c7,rfl,rfl,u,hg⟩:=hrel;have k0:wr.cell? (T w.heap.size 0 Z)=N (Y (N (T Q9 ZA Z)) (S.f1 tg).actN cap):=by simp[World.cell?,u.sb.kp]
  have hkl:=ah u.sb.kp;have hy:=u.le;have Hy:G.length=f.length:=u.rg.len;obtain⟨Q2,hT⟩:∃ Q2,Q2=bK S tg f:=⟨_,rfl⟩
  have HT:=ae hT;have Hw:=ae Hy;clear hT Hy;go_wp2_with fail;refine(tV Q9 ZA (S.f1 tg).actN cap g6 0 f.length c6 (S.f1 tg).act (yL f) wr (by omega) (IQ.below u.sb.si.bel ly) (Fc u.sb.r6) Iy).mono ?_;rintro e K ⟨he,R⟩;rw[Ao CC.ok GE u.rg.good u.le,<-HT.out] at he;subst he;have II:=ae (u.sb.below R ly);have Hk:=ae (lP CC.ok GE u.rg.good);rw[<-HT.out] at Hk;clear R k0;obtain⟨over,code,text,ask,name,steps⟩:=Q2;simp only[Turn.v];have A5:=ae ((q9 K).alloc ly (Q #[QT over,I J code,U text,QT ask,U name,I J steps] 150));have kt:Hid (TBx (K.alloc (Q #[QT over,I J code,U text,QT ask,U name,I J steps] 150)) K.heap.size over code text ask name steps):=cM _ _;obtain⟨t0,t1,t2,t3,t4⟩:=kt.cells;have o:=ae (II.below A5 ly);cases over with
  | true =>
   have IJ:Hid (R0=.inl (made,(⟨QR,code,text,ask,name,steps⟩,G))):=by show _=_;rw[<-u.run,show 201 - f.length=(200 - f.length)+1 by omega,ct,<-HT.out,gA rfl]
   obtain⟨rl,r0,r1,r2,rf⟩:=aU o.kr;have Hv:=rf 0;have Ht:=rf 1;have Hz:=rf 2;clear rf;go_wp2_with fail;generalize K.alloc (Q #[QT QR,I J code,U text,QT ask,U name,I J steps] 150)=W5 at A5 kt o r0 r1 r2 Hv Ht Hz rl t0 t1 t2 t3 t4 ⊢;refine bp (v:=.tuple #[QV #[I J code,U text,Y Z 0 0],Y (N (T g7 0 Z)) G.length c7]) (by simp[results,Tryz.results141,go_sem,r0,r1,r2]) rfl ?_;have V:w0.heap.size<=w.heap.size+1:=by omega
   have x0:=o.si.setOff o.kr ⟨by decide,by decide,by decide,by decide⟩ V 0 (I J code);have y0:=aB o.kr (j:=0) (I J code);have x1:=x0.setOff y0 ⟨by decide,by decide,by decide,by decide⟩ V 1 (U text);have y1:=aB y0 (j:=1) (U text);have x2:=x1.setOff y1 ⟨by decide,by decide,by decide,by decide⟩ V 2 (Y Z 0 0);have DE:g7≠w.heap.size+1:=fun e=>by obtain⟨_,_,cs,hc⟩:=ar o.r7 g7 rfl;exact absurd (au (e ▸ hc) o.kr) (by decide)
   rw[IJ.out];refine⟨L,md,or,st,g7,c7,rfl,x2,u.rel,aA (aA (aA o.r7 (fun e=>DE (ES e)) _ _) (fun e=>DE (ES e)) _ _) (fun e=>DE (ES e)) _ _,o.ap,u.ext,?_⟩;refine((o.kx.trans (KS.setCell (X:=fun i=>i=w.heap.size+1) W5 V (Or.inl rfl) (I J code)) ?_).trans (KS.setCell (X:=fun i=>i=w.heap.size+1) _ V (Or.inl rfl) (U text)) ?_).trans (KS.setCell (X:=fun i=>i=w.heap.size+1) _ V (Or.inl rfl) (Y Z 0 0)) ?_;all_goals
    intro i hi h;have e2:i=w.heap.size+1:=h;omega
  | false =>
   have hyl:f.length<200:=by
    rcases Hk.out with h | h
    ·exact absurd h.1 (by simp)
    ·exact h.2.1
   have HN:Hid (av name=QR):=by
    rcases Hk.out with h | h
    ·exact absurd h.1 (by simp)
    ·exact h.2.2
   cases ask with
   | false =>
    have A:=u.run;rw[show 201 - f.length=(200 - f.length)+1 by omega,ct,<-HT.out,eI (by simp),gA rfl] at A;obtain⟨ZB,Fk⟩:∃ ZB,ZB=gX S name:=⟨_,rfl⟩
    have Hp:=ae Fk;simp only at A;rw[<-Fk] at A;have NX:=ae A;clear A Fk;go_wp2_with fail;clear t0 t1 t2 t3 t4;generalize K.alloc (Q #[QT QQ,I J code,U text,QT QQ,U name,I J steps] 150)=W5 at A5 kt o ⊢;obtain⟨QY,b0,b1,-⟩:=o.si.box.facts;refine(oW CC W5 name o.si.bel QY b0 b1).mono ?_;rintro e F ⟨he,R⟩;rw[<-Hp.out] at he;subst he;have E:=ae (o.below R ly);have aq:Hid (TBx F K.heap.size QQ code text QQ name steps):=(R.block _ (ah kt)).trans kt;clear R b0 b1 QY;have q:=ae ((q9 F).alloc ly (Q #[QT ZB,I J 0,U ⟨#[]⟩] 156));have RA:=ae (own_below E.r6 q ly);have Hj:w.heap.size<=F.heap.size:=E.kx.below.size
    go_upto_region 9 with (first
     | (at_builtin;refine bv _ rfl (.tmp 32) (.tmp 35) 153 rfl w.heap.size 156 i6 (QV #[QT QQ,I J 0,U ⟨#[]⟩]) 3 32 Tryz.underlying153 Hr Hx Hn Ii rfl (by decide) (Y (N (T g6 0 Z)) f.length c6) f.length (mc f) (by simp[Act.eval]) RA.out (T F.heap.size 0 Z) 1 1 [QT ZB,I J 0,U ⟨#[]⟩] (by simp[Act.eval]) rfl (jp F _ _ _ _) (by simp[Value.oneCell']) (by unfold maxLen;omega) (by omega) (by simp<;>omega) ?_;intro v3 s bt O th;have O3:=ae bt;have G3:=ae O;clear bt O th)
     | fail)
    have mv:Hid (∀ (k:Nat) (cs:Array QS) (t:TypeId) (fz:Nat × Nat),(F.alloc (Q #[QT ZB,I J 0,U ⟨#[]⟩] 156)).heap[k]?=N (Obj.cells cs t fz)->t≠156->s.heap[k]?=(F.alloc (Q #[QT ZB,I J 0,U ⟨#[]⟩] 156)).heap[k]?):=fun k cs t fz hk ht=>G3.block k (ah hk) fun e=>by obtain⟨_,_,ID,GI⟩:=ar RA k e.symm;exact ht (au hk GI)
    have qr:Hid (TBx s K.heap.size QQ code text QQ name steps):=by have h0:=(q.block _ (ah aq)).trans aq;exact(mv _ _ _ _ h0 (by decide)).trans h0
    have GV:Hid (s.ownsRow w.heap.size 164 3 (Y (N (T g7 0 Z)) G.length c7) G.length (eB G)):=dx (own_below E.r7 q ly) fun k hk=>by obtain⟨_,_,cs,hc⟩:=ar (own_below E.r7 q ly) k hk;exact mv _ _ _ _ hc (by decide)
    obtain⟨-,-,-,-,n4⟩:=qr.cells;have IA:=ah qr.out;have A7:=ae ((q9 s).alloc ly (Q #[U name,QT QQ,QT ZB] 164));have RS:=ae (own_below GV A7 ly);have IM:w.heap.size<=s.heap.size:=j4 (j4 Hj (by simp<;>omega)) G3.size;have Bk:=Hw.out;obtain⟨P,QW⟩:∃ P,P=G.length:=⟨_,rfl⟩
    have Hm:P<=200:=by omega
    have GY:=ae QW;rw[<-QW] at RS ⊢;clear Bk QW
    go_wp2_with (first
     | (at_builtin;refine bv _ rfl (.tmp 37) (.tmp 42) 159 rfl w.heap.size 164 i7 (QV #[U ⟨#[]⟩,QT QQ,QT QQ]) 3 24 Tryz.underlying159 Il Hu H6 Iu rfl (by decide) (Y (N (T g7 0 Z)) P c7) P (eB G) (by simp[Act.eval]) RS.out (T s.heap.size 0 Z) 1 1 [U name,QT QQ,QT ZB] (by simp[Act.eval]) rfl (jp s _ _ _ _) (by simp[Value.oneCell']) (by unfold maxLen;omega) (by omega) (by simp<;>omega) ?_;intro v4 w4 QX QZ fd;have O4:=ae QX;have G4:=ae QZ;have GW:=ae fd;clear QX QZ fd)
     | fail)
    obtain⟨GQ,Hc,Hh,Hd,e6,e7,Hl⟩:=E.more (r:=⟨ZB,0,⟨#[]⟩⟩) (l:=⟨name,QQ,ZB⟩) la q O3 G3 A7 (by rw[<-GY.out];exact O4) G4 GW;have B:(f++[(⟨ZB,0,⟨#[]⟩⟩:aI)]).length=f.length+1:=by simp
    have GS:Hid (SR w0 S hb (Y a0 S.n0 c0) (Y a1 S.n1 c1) w n making tg (Y (N (T Q9 ZA Z)) (S.f1 tg).actN cap) L0 R0 w4 (f++[⟨ZB,0,⟨#[]⟩⟩]) (G++[⟨name,QQ,ZB⟩]) made L md or st GQ Hc Hh Hd) :=
     ⟨Hl,u.rel,u.pg,(u.rg.add (by rw[Hp.out];exact nI _ _) HN (fun h=>by cases h)),(by rw[B,show 201 - (f.length+1)=200 - f.length by omega];exact(by have:=u.room;unfold fc at this ⊢;omega)),(by rw[B,show 201 - (f.length+1)=200 - f.length by omega];exact NX),(by rw[B];omega),u.ext⟩
    obtain⟨g,rfl⟩:∃ g,gk=g+1:=⟨gk - 1,by omega⟩
    go_roundg g;case measure=>omega
    case rel=>exact⟨_,_,_,_,_,_,_,_,_,_,_,e6,e7,GS,by rw[B];omega⟩
   | true =>
    have A:=u.run;rw[show 201 - f.length=(200 - f.length)+1 by omega,ct,<-HT.out,eI (by simp),eI (by simp)] at A;simp only at A;go_wp2_with fail;clear t0 t1 t2 t3 t4;generalize K.alloc (Q #[QT QQ,I J code,U text,QT QR,U name,I J steps] 150)=W5 at A5 kt o ⊢;refine(I9 making made L md or st W5 name Iv o.si u.rel u.pg (by have:=u.room;unfold fc at this ⊢;omega) IL HN).mono ?_;intro e F Q0;have HQ:(∃ D x,aX S n making made name=.inl (D,x))∨∃ (r:jH) (va:Option Addr) (vn vk:Nat),e=QU (iB r (Y va vn vk))/\iV w0 hb F r (Y va vn vk)/\KS w0.heap.size XN W5 F/\Hid (∀ vs w',iV w0 hb w' r (Y va vn vk)->KS w0.heap.size XN w w'->oX w0 hb (Y a0 S.n0 c0) (Y a1 S.n1 c1) making L0 w (QU (.tuple #[iB r (Y va vn vk),vs])) w' R0):=by
     rcases hr:aX S n making made name with ⟨D,x⟩ | c | d
     ·exact .inl ⟨_,_,rfl⟩
     all_goals
      rw[hr] at Q0 A;dsimp only at A;subst A
     ·obtain⟨ca,ck,rfl,hd,hK⟩:=Q0
      exact .inr ⟨_,_,_,_,rfl,hd,hK,fun vs w' h1 h2=>⟨ca,ck,vs,rfl,h1,h2⟩⟩
     ·obtain⟨rfl,hd,hK⟩:=Q0
      exact .inr ⟨_,_,_,_,rfl,hd,hK,fun vs w' h1 h2=>⟨vs,rfl,h1,h2⟩⟩
    rcases HQ with ⟨D,x,hr⟩ | ⟨r,va,vn,vk,rfl,⟨q0,q1,qm,qo,qs,GM,Iq⟩,hK,fin⟩
    ·rw[hr] at Q0 A
     dsimp only at A;obtain⟨L2,IK,IW,IC,rfl,It,Hg,GU,hK⟩:=Q0;obtain⟨GN,⟨more,Fm⟩,hx,He⟩:=eN CC.ok n making made name D x u.pg HN hr;have GL:=lO S n making made name D x hr;have GO:∀ y∈made,y∈D:=fun y hy=>by rw[Fm];exact JK _ hy
     have Hi:=ae (o.step hK It GU);have Iz:=ae Hg;have I6:=ae GN;have Ih:Hid (RG S D (f++[i8 x]) (G++[⟨name,QR,QQ⟩])):=(u.rg.mono GO).add (nJ (GN.ents x hx)) HN (fun _=>⟨x,hx,He⟩);have IP:Hid (fc S making D (200 - f.length)):=by have:=u.room;unfold fc at this ⊢;unfold gC at GL;show _<=_;omega
     have IZ:=ae (u.ext.trans GU o.kx.below.size);have DQ:Hid (TBx F K.heap.size QQ code text QR name steps):=(hK.blk _ _ _ _ kt (by decide) (by decide) (by decide) fun h=>h).trans kt;have NX:=ae A;obtain⟨rc,rt,ob,oc,ot,Ie,Is,HU⟩:=Dq (GN.ents x hx);rw[Is] at Ih NX;have hz25:W5.heap.size<=F.heap.size:=hK.below.size;have hg65:g6<W5.heap.size:=(ar o.r6 g6 rfl).2.1;have hw25:w.heap.size+2<=W5.heap.size:=ah o.kr;rw[He] at HU;simp only[Ie];clear It Hg GU hK GN Fm hx He GL GO hr A Ie Is;have q:=ae ((q9 F).alloc ly (Q #[I J rc,U rt,Y Z 0 0] 37));have G8:Hid ((F.alloc (Q #[I J rc,U rt,Y Z 0 0] 37)).heap[F.heap.size]?=N (Q #[I J rc,U rt,Y Z 0 0] 37 (0,0))):=cM _ _;obtain⟨QY,-,-,-,-,-,-,-,-,b8,-⟩:=Hi.si.box.facts;have d8:=(q.cell (p:=(T hb 8 Z)) QY).trans b8;obtain⟨rl,r0,r1,-,-⟩:=aU G8;go_upto_region 13 with fail;clear d8 b8;generalize F.alloc (Q #[I J rc,U rt,Y Z 0 0] 37)=W6 at q G8 r0 r1 rl ⊢;have A7:=ae ((q9 W6).alloc ly (Q #[QT QR,I J rc,U rt] 156));have ky:Hid ((W6.alloc (Q #[QT QR,I J rc,U rt] 156)).heap[W6.heap.size]?=N (Q #[QT QR,I J rc,U rt] 156 (0,0))):=cM _ _;go_upto_region 14 with fail;generalize W6.alloc (Q #[QT QR,I J rc,U rt] 156)=W8 at A7 ky ⊢;have Ib:=ae (q.trans (A7.mono q.size));have n9:=ae (Hi.below Ib ly);have ro:Hid (TBx W8 K.heap.size QQ code text QR name steps):=(Ib.block _ (ah DQ)).trans DQ;have r7:=(A7.cell (p:=(T F.heap.size 0 Z)) rl).trans r0;have Fd:F.heap.size<W8.heap.size:=lj rl A7.size;obtain⟨-,-,-,-,tn⟩:=ro.cells;have n8:=ah ro.out;obtain⟨M,Id⟩:∃ M,M=W6.heap.size:=⟨_,rfl⟩
     rw[<-Id] at ky ⊢;have ur:w.heap.size+2<=M:=by have:=q.size;omega
     have At:M≠g6:=by have:=q.size;omega
     clear Id Hi DQ A7 q G8 r0 r1;obtain⟨ld,b0,b1,-⟩:=n9.si.box.facts;rcases HU with ⟨GP,e4,e3⟩ | ⟨GP,e3⟩
     case' inr=>by_cases h4:rc=4
     all_goals
      have Ip:=ae GP;have E3:=ae e3;clear GP e3
     case' inl =>
      subst e4;go_wp2_with fail;refine(oW CC W8 name n9.si.bel ld b0 b1).mono ?_;rintro e s ⟨he,R⟩;rw[Ip.out] at he;subst he;have IB:=ae (n9.below R ly);have Ig:Hid (TBx s K.heap.size QQ code text QR name steps):=(R.block _ n8).trans ro;have GK:=(R.block _ (ah ky)).trans ky;obtain⟨yl,y0,y1,y2,yf⟩:=aU GK;have IE:=yf 0;have IU:=yf 1;have I8:=yf 2;have x0:=IB.setOff GK ⟨by decide,by decide,by decide,by decide⟩ la ur At 0 (QT QQ);have x1:=x0.1.setOff x0.2 ⟨by decide,by decide,by decide,by decide⟩ la ur At 1 (I J 0);have x2:=x1.1.setOff x1.2 ⟨by decide,by decide,by decide,by decide⟩ la ur At 2 (U ⟨#[]⟩);have E:=ae x2.1;have Hf:K.heap.size≠M:=fun e=>absurd (au (show s.heap[K.heap.size]?=_ from Ig.out) (e ▸ GK)) (by decide);have aq:Hid (TBx (((s.setCell (T M 0 Z) (QT QQ)).setCell (T M 1 Z) (I J 0)).setCell (T M 2 Z) (U ⟨#[]⟩)) K.heap.size QQ code text QR name steps):=(qh _ _ _ _ Hf).trans ((qh _ _ _ _ Hf).trans ((qh _ _ _ _ Hf).trans Ig));have KY:Hid ((((s.setCell (T M 0 Z) (QT QQ)).setCell (T M 1 Z) (I J 0)).setCell (T M 2 Z) (U ⟨#[]⟩)).heap[M]?=N (Q #[QT ob,I J oc,U ot] 156 (0,0))):=by rw[E3.1,E3.2.1,E3.2.2];exact x2.2
      clear x0 x1 x2 R tn b0 b1 ld r7 Fd n8 rl GK;go_upto_region 16 with fail;clear y0 y1 y2 IE IU I8 yl;generalize ((s.setCell (T M 0 Z) (QT QQ)).setCell (T M 1 Z) (I J 0)).setCell (T M 2 Z) (U ⟨#[]⟩)=W8 at E KY aq ⊢
     case' pos =>
      subst h4;go_wp2_with fail;refine(oW CC W8 name n9.si.bel ld b0 b1).mono ?_;rintro e s ⟨he,R⟩;rw[Ip.out] at he;subst he;have E:=ae (n9.below R ly);have aq:Hid (TBx s K.heap.size QQ code text QR name steps):=(R.block _ n8).trans ro;have KY:Hid (s.heap[M]?=N (Q #[QT ob,I J oc,U ot] 156 (0,0))):=by rw[E3.1,E3.2.1,E3.2.2];exact(R.block _ (ah ky)).trans ky
      clear R tn b0 b1 ld r7 Fd n8 rl;go_upto_region 16 with fail;generalize s=W8 at E KY aq ⊢
     case' neg =>
      have h4b:(rc == 4)=QQ:=by simpa using h4
      have E:=n9;have aq:=ro;have KY:Hid (W8.heap[M]?=N (Q #[QT ob,I J oc,U ot] 156 (0,0))):=by rw[E3.1,E3.2.1,E3.2.2];exact ky
      go_upto_region 16 with fail;clear tn b0 b1 ld r7 Fd n8 rl
     all_goals
      obtain⟨yl,y0,y1,y2,-⟩:=aU KY;have q:=ae ((q9 W8).alloc ly (Q #[QT ob,I J oc,U ot] 156));have RA:=ae (own_below E.r6 q ly);have Hj:w.heap.size<=W8.heap.size:=E.kx.below.size
      go_upto_region 17 with (first
       | (at_builtin;refine bv _ rfl (.tmp 73) (.tmp 75) 153 rfl w.heap.size 156 i6 (QV #[QT QQ,I J 0,U ⟨#[]⟩]) 3 32 Tryz.underlying153 Hr Hx Hn Ii rfl (by decide) (Y (N (T g6 0 Z)) f.length c6) f.length (mc f) (by simp[Act.eval]) RA.out (T W8.heap.size 0 Z) 1 1 [QT ob,I J oc,U ot] (by simp[Act.eval]) rfl (jp W8 _ _ _ _) (by simp[Value.oneCell']) (by unfold maxLen;omega) (by omega) (by simp<;>omega) ?_;intro v3 s bt O th;have O3:=ae bt;have G3:=ae O;clear bt O th)
       | fail)
      have mv:Hid (∀ (k:Nat) (cs:Array QS) (t:TypeId) (fz:Nat × Nat),(W8.alloc (Q #[QT ob,I J oc,U ot] 156)).heap[k]?=N (Obj.cells cs t fz)->t≠156->s.heap[k]?=(W8.alloc (Q #[QT ob,I J oc,U ot] 156)).heap[k]?):=fun k cs t fz hk ht=>G3.block k (ah hk) fun e=>by obtain⟨_,_,ID,GI⟩:=ar RA k e.symm;exact ht (au hk GI)
      have qr:Hid (TBx s K.heap.size QQ code text QR name steps):=by have h0:=(q.block _ (ah aq)).trans aq;exact(mv _ _ _ _ h0 (by decide)).trans h0
      have GV:Hid (s.ownsRow w.heap.size 164 3 (Y (N (T g7 0 Z)) G.length c7) G.length (eB G)):=dx (own_below E.r7 q ly) fun k hk=>by obtain⟨_,_,cs,hc⟩:=ar (own_below E.r7 q ly) k hk;exact mv _ _ _ _ hc (by decide)
      obtain⟨-,-,-,-,n4⟩:=qr.cells;have IA:=ah qr.out;have A7:=ae ((q9 s).alloc ly (Q #[U name,QT QR,QT QQ] 164));have RS:=ae (own_below GV A7 ly);have IM:w.heap.size<=s.heap.size:=j4 (j4 Hj (by simp<;>omega)) G3.size;have Bk:=Hw.out;obtain⟨P,QW⟩:∃ P,P=G.length:=⟨_,rfl⟩
      have Hm:P<=200:=by omega
      have GY:=ae QW;rw[<-QW] at RS ⊢;clear Bk QW
      go_wp2_with (first
       | (at_builtin;refine bv _ rfl (.tmp 77) (.tmp 81) 159 rfl w.heap.size 164 i7 (QV #[U ⟨#[]⟩,QT QQ,QT QQ]) 3 24 Tryz.underlying159 Il Hu H6 Iu rfl (by decide) (Y (N (T g7 0 Z)) P c7) P (eB G) (by simp[Act.eval]) RS.out (T s.heap.size 0 Z) 1 1 [U name,QT QR,QT QQ] (by simp[Act.eval]) rfl (jp s _ _ _ _) (by simp[Value.oneCell']) (by unfold maxLen;omega) (by omega) (by simp<;>omega) ?_;intro v4 w4 QX QZ fd;have O4:=ae QX;have G4:=ae QZ;have GW:=ae fd;clear QX QZ fd)
       | fail)
      obtain⟨GQ,Hc,Hh,Hd,e6,e7,Hl⟩:=E.more (r:=⟨ob,oc,ot⟩) (l:=⟨name,QR,QQ⟩) la q O3 G3 A7 (by rw[<-GY.out];exact O4) G4 GW;have B:(f++[(⟨ob,oc,ot⟩:aI)]).length=f.length+1:=by simp
      have GS:Hid (SR w0 S hb (Y a0 S.n0 c0) (Y a1 S.n1 c1) w n making tg (Y (N (T Q9 ZA Z)) (S.f1 tg).actN cap) L0 R0 w4 (f++[⟨ob,oc,ot⟩]) (G++[⟨name,QR,QQ⟩]) D L2 IK IW IC GQ Hc Hh Hd) :=
       ⟨Hl,Iz,I6,Ih,(by rw[B,show 201 - (f.length+1)=200 - f.length by omega];exact IP),(by rw[B,show 201 - (f.length+1)=200 - f.length by omega];exact NX),(by rw[B];omega),IZ⟩
      obtain⟨g,rfl⟩:∃ g,gk=g+1:=⟨gk - 1,by omega⟩
      go_roundg g;case measure=>omega
      case rel=>exact⟨_,_,_,_,_,_,_,_,_,_,_,e6,e7,GS,by rw[B];omega⟩
    ·clear Q0 A
     obtain⟨QY,-,-,-,-,-,b5,b6,b7,b8,-⟩:=GM.facts;have GF:=(hK.blk _ _ _ _ o.kr (by decide) (by decide) (by decide) fun h=>h).trans o.kr;have KW:=ae (o.kx.to hK);have IY:=ae GM;have Ir:=ae Iq;have q:=ae ((q9 F).alloc ly (Q #[I J r.code,U r.text,Y va vn vk] 37));have Hb:=(q.block _ (ah GF)).trans GF;obtain⟨rl,r0,r1,r2,rf⟩:=aU Hb;have d5:=(q.cell (p:=(T hb 5 Z)) QY).trans b5;have d6:=(q.cell (p:=(T hb 6 Z)) QY).trans b6;have d7:=(q.cell (p:=(T hb 7 Z)) QY).trans b7;have d8:=(q.cell (p:=(T hb 8 Z)) QY).trans b8;have Hv:=rf 0;have Ht:=rf 1;have Hz:=rf 2;have sm:hb≠w.heap.size+1:=fun e=>absurd (au (e ▸ GM) GF) (by decide);have IX:=ae Hb;clear rf GM Iq hK b5 b6 b7 b8 GF Hb;simp only[iB];go_wp2_with fail;refine bp (v:=.tuple #[iB r (Y va vn vk),Y (N (T g7 0 Z)) G.length c7]) (by simp[results,Tryz.results141,go_sem,r0,r1,r2,iB]) rfl ?_;have V:w0.heap.size<=w.heap.size+1:=by omega
     have Iw:∀ (W:H) (v0 v1 v2:QS),(((W.setCell (T (w.heap.size+1) 0 Z) v0).setCell (T (w.heap.size+1) 1 Z) v1).setCell (T (w.heap.size+1) 2 Z) v2).heap[hb]?=W.heap[hb]?:=fun W v0 v1 v2=>(qh _ _ _ _ sm).trans ((qh _ _ _ _ sm).trans (qh _ _ _ _ sm));have GT:∀ k,(Value.slice va vn vk).ownBlock=N k->k≠w.heap.size+1:=fun k hk e=>by obtain⟨_,_,cs,hc⟩:=ar (own_below Ir q ly) k hk;exact absurd (au (e ▸ hc) IX) (by decide)
     refine fin (Y (N (T g7 0 Z)) G.length c7) _ ⟨q0,q1,qm,qo,qs,(Iw _ _ _ _).trans ((q.block _ QY).trans IY),aA (aA (aA (own_below Ir q ly) (fun e=>GT _ e rfl) _ _) (fun e=>GT _ e rfl) _ _) (fun e=>GT _ e rfl) _ _⟩ ?_;refine((((KW.to (KS.of_below q ly (j4 la KW.below.size))).trans (KS.setCell (X:=fun i=>i=w.heap.size+1) _ V (Or.inl rfl) _) ?_).trans (KS.setCell (X:=fun i=>i=w.heap.size+1) _ V (Or.inl rfl) _) ?_).trans (KS.setCell (X:=fun i=>i=w.heap.size+1) _ V (Or.inl rfl) _) ?_);all_goals
      intro i hi h;have e2:i=w.heap.size+1:=h;omega
end
end Go.Proofs.YtamacmnikdejeaaGreatDoor.Vp
