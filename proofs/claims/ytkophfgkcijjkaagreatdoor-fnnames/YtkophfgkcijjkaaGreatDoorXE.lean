import Derived.Test.YtkophfgkcijjkaaGreatDoorXB
import Derived.Test.YtkophfgkcijjkaaGreatDoorYT
import Derived.Deep.Cut
set_option maxRecDepth 1000000
set_option maxHeartbeats 8000000
namespace Go.Proofs.YtkophfgkcijjkaaGreatDoor.Vp
open RowKit
structure SB (w0:World)(hb:Nat)(s0 s1:Value)(w:World)(making:List ByteArray)(pv:Value)(wr:World)(ys:List aC)(ls:List Lk)(made:List Ent)(L:List SM)(md or st:Value)(g6 c6 g7 c7:Nat):Prop where
 si:SI w0 hb s0 s1 wr making made L md or st
 r6:wr.ownsRow w.heap.size 75 3 (.slice (some ⟨g6,0,none⟩) ys.length c6) ys.length (gY ys)
 r7:wr.ownsRow w.heap.size 239 3 (.slice (some ⟨g7,0,none⟩) ls.length c7) ls.length (df ls)
 ap:∀ m∈L,m.done=true->m.sv.ownBlock≠some g7
 kp:wr.heap[w.heap.size]?=some (.cells #[pv] 31 (0,0))
 kr:wr.heap[w.heap.size+1]?=some (.cells #[.int .i64 0,.string ⟨#[]⟩,.slice none 0 0] 41 (0,0))
 kx:KS w0.heap.size XN w wr
structure SR (w0:World)(S:Spc)(hb:Nat)(s0 s1:Value)(w:World)(n:Nat)(making:List ByteArray)(tg:Nat)(pv:Value)(L0:List SM)(R0:Out (Turn × List Lk))(wr:World)(ys:List aC)(ls:List Lk)(made:List Ent)(L:List SM)(md or st:Value)(g6 c6 g7 c7:Nat):Prop where
 sb:SB w0 hb s0 s1 w making pv wr ys ls made L md or st g6 c6 g7 c7
 rel:eB L making made
 pg:PG S making made
 rg:RG S made ys ls
 room:dZ S making made (201 - ys.length)
 run:dw S (bv S n making) tg (201 - ys.length) made ys ls=R0
 le:ys.length<=200
 ext:LExt w.heap.size L0 L
def TBx (w:World)(g:Nat)(over:Bool)(code:Int)(text:ByteArray)(ask:Bool)(name:ByteArray)(steps:Int):Prop:=w.heap[g]?=some (.cells #[.bool over,.int .i64 code,.string text,.bool ask,.string name,.int .i64 steps] 70 (0,0))
theorem TBx.cells {w:World}{g:Nat}{over:Bool}{code:Int}{text:ByteArray}{ask:Bool}{name:ByteArray}{steps:Int}(h:TBx w g over code text ask name steps):w.cell? ⟨g,0,none⟩=some (.bool over)/\w.cell? ⟨g,1,none⟩=some (.int .i64 code)/\w.cell? ⟨g,2,none⟩=some (.string text)/\w.cell? ⟨g,3,none⟩=some (.bool ask)/\w.cell? ⟨g,4,none⟩=some (.string name):=by unfold TBx at h;refine⟨?_,?_,?_,?_,?_⟩;all_goals simp[World.cell?,h]
def qg (w0:World)(hb:Nat)(s0 s1:Value)(making:List ByteArray)(L:List SM)(w:World)(e:Ending)(w':World):Out (Turn × List Lk)->Prop
 | .inl (made',x)=>∃ b f h i g c,e=.returned (.tuple #[.agg #[.int .i64 x.1.code,.string x.1.text,.slice none 0 0],.slice (some ⟨g,0,none⟩) x.2.length c])/\SI w0 hb s0 s1 w' making made' b f h i/\eB b making made'/\w'.ownsRow w.heap.size 239 3 (.slice (some ⟨g,0,none⟩) x.2.length c) x.2.length (df x.2)/\(∀ m∈b,m.done=true->m.sv.ownBlock≠some g)/\LExt w.heap.size L b/\KS w0.heap.size XN w w'
 | .inr (.inl c)=>∃ a k sv,e=.returned (.tuple #[fF (eP c) (.slice a c.length k),sv])/\iN w0 hb w' (eP c) (.slice a c.length k)/\KS w0.heap.size XN w w'
 | .inr (.inr d)=>∃ sv,e=.returned (.tuple #[fF (eQ d) (.slice none 0 0),sv])/\iN w0 hb w' (eQ d) (.slice none 0 0)/\KS w0.heap.size XN w w'
theorem dO (w:World)(b c d:Value)(t:TypeId):∀ j u,[b,c,d][j]?=some u->(w.alloc (.cells #[b,c,d] t)).cell? ((⟨w.heap.size,0,none⟩:Addr).add j)=some u:=by
 intro j u h;rw[addr_add];have hj:j<3:=by
  rcases Nat.lt_or_ge j 3 with f | f
  ·exact f
  ·rw[List.getElem?_eq_none (by simp;omega)] at h;cases h
 rcases(show j=0∨j=1∨j=2 by omega) with rfl | rfl | rfl;all_goals
  simp at h;subst h;simp
theorem aI {w:World}{b:Nat}{c d f:Value}{t:TypeId}(h:w.heap[b]?=some (.cells #[c,d,f] t (0,0))):b<w.heap.size/\w.cell? ⟨b,0,none⟩=some c/\w.cell? ⟨b,1,none⟩=some d/\w.cell? ⟨b,2,none⟩=some f/\∀ j,w.frozen? ⟨b,j,none⟩=false:=by refine⟨af h,?_,?_,?_,fun j=>?_⟩;all_goals simp[World.cell?,World.frozen?,h]
section
variable {w0 w w':World}{hb:Nat}{s0 s1 md or st:Value}{making:List ByteArray}{made:List Ent}{L:List SM}
theorem SI.grown {v:Value}{f size n:Nat}{e:TypeId}{C:List Value}(h:SI w0 hb s0 s1 w making made L md or st)(b:w.grownBy w' v.ownBlock)(B:w.ownsRow f e size v n C)(hB:w0.heap.size<=f)(l:e≠9/\e≠236/\e≠125)(A:∀ m∈L,m.done=true->∀ k,v.ownBlock=some k->m.sv.ownBlock≠some k):SI w0 hb s0 s1 w' making made L md or st:=by
 have x:=ah B;have q:∀ (i:Nat) (p:Array Value) (t:TypeId) (fz:Nat × Nat),w.heap[i]?=some (Obj.cells p t fz)->t≠e->w'.heap[i]?=w.heap[i]?:=fun i p t fz hi j=>b.block i (af hi) fun g=>by obtain⟨_,_,cs2,o⟩:=x i g.symm;exact j (ai hi o)
 have c:∀ {size n:Nat} {t:TypeId} {u:Value} {z:List Value},w.ownsRow w0.heap.size t size u n z->t≠e->w'.ownsRow w0.heap.size t size u n z:=fun y j=>bB y fun k d=>by obtain⟨_,_,p,o⟩:=ah y k d;exact q _ _ _ _ o j
 refine⟨h.bel.trans ⟨b.os,b.tape,b.output,b.size,fun k d=>b.block k (lj d h.lt) fun g=>?_⟩,h.hbB,h.box.blk (q _ _ _ _ h.box l.2.2.symm),c h.rmd l.2.1.symm,c h.ror l.1.symm,c h.rst l.1.symm,h.apart,fun m s r=>bB (h.seen m s r) fun k d=>?_⟩
 ·have:=(x k g.symm).1
  omega
 ·obtain⟨_,D,p,o⟩:=ah (h.seen m s r) k d
  exact b.block k D fun g=>A m s r k g.symm d
theorem KS.grow {v:Value}{b size n:Nat}{e:TypeId}{l:List Value}{W:World}{B:Nat}(h:KS B XN W w)(g:w.grownBy w' v.ownBlock)(c:w.ownsRow b e size v n l)(m:W.heap.size<=b)(f:B<=W.heap.size):KS B XN W w' :=
 h.trans (Y:=fun i=>v.ownBlock=some i) (KS.of_grown g (Nat.le_trans f h.below.size) fun j d=>⟨Nat.le_trans (Nat.le_trans f m) (ah c j d).1,.inl d⟩) fun i hi k=>by have:=(ah c i k).1;omega
theorem SB.below {W wr d:World}{f:Value}{m:List aC}{j:List Lk}{i k l g C:Nat}(h:SB w0 hb s0 s1 W making f wr m j made L md or st i k l g)(b:Below C wr d)(c:wr.heap.size<=C):SB w0 hb s0 s1 W making f d m j made L md or st i k l g :=
 ⟨h.si.below b c,own_below h.r6 b c,own_below h.r7 b c,h.ap,(b.block _ (lj (af h.kp) c)).trans h.kp,(b.block _ (lj (af h.kr) c)).trans h.kr,h.kx.to (KS.of_below b c h.si.lt)⟩
theorem SB.more {W S K I D Q:World}{Z v3 M:Value}{i:List aC}{d:List Lk}{y T f J:Nat}{r:aC}{l:Lk}(h:SB w0 hb s0 s1 W making Z S i d made L md or st y T f J)(N:w0.heap.size<=W.heap.size)
  (b3:Below S.heap.size S K) (R:I.ownsRow W.heap.size 75 3 v3 (i.length+1) (gY i++[.bool r.has,.int .i64 r.code,.string r.text])) (A:K.grownBy I (some y))
  (n:Below I.heap.size I D) (V:Q.ownsRow W.heap.size 239 3 M (d.length+1) (df d++[.string l.name,.bool l.ask,.bool l.has])) (z:D.grownBy Q (some f)) (G:M.ownBlock=some f∨M.ownBlock=some D.heap.size) :
  ∃ p q c s,v3=.slice (some ⟨p,0,none⟩) (i++[r]).length q/\M=.slice (some ⟨c,0,none⟩) (d++[l]).length s/\SB w0 hb s0 s1 W making Z Q (i++[r]) (d++[l]) made L md or st p q c s:=by
 have b:=h.below b3 ly;have aq:W.heap.size<K.heap.size:=af b.kp;have ex:W.heap.size+1<K.heap.size:=af b.kr;have bt:=ah b.r6 y rfl;obtain⟨hg6,hg6l,cs6,g⟩:=bt
 have s3:=b.si.grown (v:=.slice (some ⟨y,0,none⟩) i.length T) A b.r6 N ⟨by decide,by decide,by decide⟩ (fun m u t k o e=>by
  cases o
  obtain⟨_,_,cs,H⟩:=ah (b.si.seen m u t) y e
  exact absurd (ai g H) (by decide))
 have k3:=KS.grow (v:=.slice (some ⟨y,0,none⟩) i.length T) b.kx A b.r6 ly N;have X:I.ownsRow W.heap.size 239 3 (.slice (some ⟨f,0,none⟩) d.length J) d.length (df d):=bB b.r7 fun k o=>by obtain⟨_,U,cs,H⟩:=ah b.r7 k o;exact A.block k U fun e=>by cases e;exact absurd (ai g H) (by decide)
 have P:=(A.block W.heap.size aq fun e=>by cases e;exact absurd (ai g b.kp) (by decide)).trans b.kp;have O:=(A.block (W.heap.size+1) ex fun e=>by have x:=Option.some.inj e;exact absurd (ai g (x ▸ b.kr)) (by decide)).trans b.kr;obtain⟨p,q,cu6,rfl,-⟩:=R.2.resolve_left (fun h=>by omega);have Y:=s3.below n ly;have B:=own_below X n ly;obtain⟨hg7,hg7l,cs7,j⟩:=ah B f rfl;have E:=(n.block W.heap.size (af P)).trans P;have C:=(n.block (W.heap.size+1) (af O)).trans O;have s5:=Y.grown (v:=.slice (some ⟨f,0,none⟩) d.length J) z B N ⟨by decide,by decide,by decide⟩ (fun m u t k o e=>by cases o;exact h.ap m u t e);have k5:=KS.grow (v:=.slice (some ⟨f,0,none⟩) d.length J) (k3.to (KS.of_below n ly s3.lt)) z B ly N;obtain⟨c,s,cu7,rfl,-⟩:=V.2.resolve_left (fun h=>by omega);have e6:(i++[r]).length=i.length+1:=by simp
 have e7:(d++[l]).length=d.length+1:=by simp
 refine⟨p,q,c,s,by rw[e6],by rw[e7],s5,?_,?_,fun m u t e=>?_,?_,?_,k5⟩
 ·rw[e6,wX]
  refine bB (own_below R n ly) fun k o=>?_;obtain⟨_,U,cs,H⟩:=ah (own_below R n ly) k o;exact z.block k U fun e=>by cases e;exact absurd (ai j H) (by decide)
 ·rw[e7,uP]
  exact V
 ·rcases G with G | G
  ·have x:c=f:=Option.some.inj (show some c=some f from G)
   exact h.ap m u t (x ▸ e)
  ·have x:c=D.heap.size:=Option.some.inj (show some c=some D.heap.size from G)
   have:=(ah (Y.seen m u t) _ e).2.1;omega
 ·exact(z.block W.heap.size (af E) fun e=>by cases e;exact absurd (ai j E) (by decide)).trans E
 ·exact(z.block (W.heap.size+1) (af C) fun e=>by have x:=Option.some.inj e;exact absurd (ai j (x ▸ C)) (by decide)).trans C
theorem SI.setOff {b:Nat}{x:Array Value}{t:TypeId}{fz:Nat × Nat}(h:SI w0 hb s0 s1 w making made L md or st)(f:w.heap[b]?=some (.cells x t fz))(d:t≠9/\t≠236/\t≠125/\t≠239)(s:w0.heap.size<=b)(j:Nat)(u:Value):SI w0 hb s0 s1 (w.setCell ⟨b,j,none⟩ u) making made L md or st:=by
 have c:∀ {size n:Nat} {g:TypeId} {k:Value} {o:List Value},w.ownsRow w0.heap.size g size k n o->t≠g->(w.setCell ⟨b,j,none⟩ u).ownsRow w0.heap.size g size k n o:=fun i l=>ay i (fun e=>by
  obtain⟨_,_,cs2,q⟩:=ah i b e
  exact l (ai f q)) _ _
 refine⟨h.bel.setCell s u,h.hbB,h.box.blk (qh _ _ _ _ fun e=>?_),c h.rmd d.2.1,c h.ror d.1,c h.rst d.1,h.apart,fun m r p=>c (h.seen m r p) d.2.2.2⟩;simp at e;subst e;exact d.2.2.1 (ai f h.box)
theorem SB.step {W wr i:World}{s g d f:Value}{x:List aC}{u:List Lk}{t r l q:Nat}{b:List Ent}{n:List SM}(h:SB w0 hb s0 s1 W making s wr x u made L md or st t r l q)(c:KS w0.heap.size XN wr i)(y:SI w0 hb s0 s1 i making b n g d f)(hX:LExt wr.heap.size L n):SB w0 hb s0 s1 W making s i x u b n g d f t r l q:=by
 refine⟨y,bB h.r6 fun k o=>?_,bB h.r7 fun k o=>?_,fun m A z e=>?_,(c.blk _ _ _ _ h.kp (by decide) (by decide) (by decide) fun h=>h).trans h.kp,(c.blk _ _ _ _ h.kr (by decide) (by decide) (by decide) fun h=>h).trans h.kr,h.kx.to c⟩
 ·obtain⟨_,_,B,j⟩:=ah h.r6 k o
  exact c.blk _ _ _ _ j (by decide) (by decide) (by decide) fun h=>h
 ·obtain⟨_,_,B,j⟩:=ah h.r7 k o
  exact c.blk _ _ _ _ j (by decide) (by decide) (by decide) fun h=>h
 ·rcases hX.sn m A z with ⟨m0,D,p,C⟩ | E
  ·exact h.ap m0 D p (by rw[C];exact e)
  ·have h2:=E _ e
   have h3:=(ah h.r7 l rfl).2.1;omega
theorem SB.setOff {W wr:World}{n:Value}{q:List aC}{p:List Lk}{d g l f b:Nat}{o:Array Value}{t:TypeId}(h:SB w0 hb s0 s1 W making n wr q p made L md or st d g l f)(c:wr.heap[b]?=some (.cells o t (0,0)))(m:t≠9/\t≠236/\t≠125/\t≠239)(hB:w0.heap.size<=W.heap.size)(hb1:W.heap.size+2<=b)(k:b≠d)(j:Nat)(u:Value):SB w0 hb s0 s1 W making n (wr.setCell ⟨b,j,none⟩ u) q p made L md or st d g l f/\(wr.setCell ⟨b,j,none⟩ u).heap[b]?=some (.cells (o.setIfInBounds j u) t (0,0)):=by refine⟨⟨h.si.setOff c m (by omega) j u,ay h.r6 (fun e=>k (Option.some.inj e).symm) _ _,ay h.r7 (fun e=>?_) _ _,h.ap,(qh _ _ _ _ (show W.heap.size≠b by omega)).trans h.kp,(qh _ _ _ _ (show W.heap.size+1≠b by omega)).trans h.kr,h.kx.trans (KS.setCell (X:=fun i=>i=b) _ (by omega) (Or.inl rfl) u) fun i hi s=>by have e2:i=b:=s;omega⟩,av c u⟩;obtain⟨_,_,cs2,r⟩:=ah h.r7 b e;exact m.2.2.2 (ai c r)
theorem wZ {S:Spc}{x:Ent}(h:EG S x):(x.kind=2/\cY x=⟨4,x.name,[]⟩/\iG x=⟨false,0,⟨#[]⟩⟩/\iH S x.name=false)∨(x.kind≠2/\cY x=⟨x.code,x.text,[]⟩/\iG x=⟨true,x.code,x.text⟩/\iH S x.name=true):=by
 unfold cY iG iH;rw[gd,gd];rcases h.kind with ⟨b,_,_,i,hi,_⟩ | ⟨b,d,g,_,f,c⟩ | ⟨b,_,c⟩
 ·exact .inr ⟨by omega,by rw[if_neg (by omega)],by simp[b],by rw[hi];rfl⟩
 ·exact .inl ⟨b,by rw[if_pos b],by simp[b,d,g],by rw[f,c];rfl⟩
 ·exact .inr ⟨by omega,by rw[if_neg (by omega)],by simp[b],by rw[c];simp⟩
end
section
variable {w0:World}{S:Spc}{a0 a1:Option Addr}{c0 c1 hb:Nat}{making:List ByteArray}
theorem xa (C:ju w0 S a0 a1)(n:Nat)(HK:j4 w0 S hb (.slice a0 S.n0 c0) (.slice a1 S.n1 c1) n)(M:List Ent)(L0:List SM)(Ax Av Ai:Value)(w:World)(a:Option Addr)(cap tg:Nat)(Bw:making.length+n=60)(h:SI w0 hb (.slice a0 S.n0 c0) (.slice a1 S.n1 c1) w making M L0 Ax Av Ai)(hrel:eB L0 making M)(hp:PG S making M)(Aq:dZ S making M 201)(Br:MT S making)(Aw:tg<S.n1)(Bo:SlIns w0 a (S.f1 tg).actN (S.f1 tg).act):Calls Tryz.prog 197 #[.pointer (some ⟨hb,0,none⟩),.agg #[.slice a (S.f1 tg).actN cap]] w fun e w'=>qg w0 hb (.slice a0 S.n0 c0) (.slice a1 S.n1 c1) making L0 w e w' (dw S (bv S n making) tg 201 M [] []):=by
 obtain⟨i6,Ag,Ak,As,At⟩:=ey tF;obtain⟨i7,Ar,Ao,Aj,Am⟩:=ey wW;obtain⟨hok,hc1,ro⟩:=cH (C.ok.act tg Aw);obtain⟨pb,po,rfl,Bt⟩:∃ pb po,a=some ⟨pb,po,none⟩/\RowIns w0 pb po (S.f1 tg).actN (S.f1 tg).act:=by
  rcases Bo with h | ⟨b,off,e,hr⟩
  ·omega
  ·exact⟨b,off,e,hr⟩
 have BH:=ae Bt;have CC:=ae C;have BP:=ae HK;have ld:w0.heap.size<=w.heap.size:=h.lt;have BV:=ae (wY C.ok Aw);obtain⟨R0,AN⟩:∃ R0,R0=dw S (bv S n making) tg 201 M [] []:=⟨_,rfl⟩
 rw[<-AN];have BK:=ae AN;have A2:=ae (((q9 w).alloc ly (.cells #[.slice (some ⟨pb,po,none⟩) (S.f1 tg).actN cap] 31)).alloc (by simp) (.cells #[.int .i64 0,.string ⟨#[]⟩,.slice none 0 0] 41));have z2:((w.alloc (.cells #[.slice (some ⟨pb,po,none⟩) (S.f1 tg).actN cap] 31)).alloc (.cells #[.int .i64 0,.string ⟨#[]⟩,.slice none 0 0] 41)).heap.size=w.heap.size+2:=by simp
 have kp:Hid (((w.alloc (.cells #[.slice (some ⟨pb,po,none⟩) (S.f1 tg).actN cap] 31)).alloc (.cells #[.int .i64 0,.string ⟨#[]⟩,.slice none 0 0] 41)).heap[w.heap.size]?=some (.cells #[.slice (some ⟨pb,po,none⟩) (S.f1 tg).actN cap] 31 (0,0))) :=
  (((Below.refl (w.heap.size+1) _).alloc (by simp) _).block w.heap.size (by omega)).trans (heap_alloc_new w _)
 have kr:Hid (((w.alloc (.cells #[.slice (some ⟨pb,po,none⟩) (S.f1 tg).actN cap] 31)).alloc (.cells #[.int .i64 0,.string ⟨#[]⟩,.slice none 0 0] 41)).heap[w.heap.size+1]?=some (.cells #[.int .i64 0,.string ⟨#[]⟩,.slice none 0 0] 41 (0,0))):=by have h2:=heap_alloc_new (w.alloc (.cells #[.slice (some ⟨pb,po,none⟩) (S.f1 tg).actN cap] 31)) (.cells #[.int .i64 0,.string ⟨#[]⟩,.slice none 0 0] 41);rw[show(w.alloc (.cells #[.slice (some ⟨pb,po,none⟩) (S.f1 tg).actN cap] 31)).heap.size=w.heap.size+1 by simp] at h2;exact h2
 have An:=ae (h.below A2.out ly);have Bs:=ae hrel;have Bp:=ae hp;have Bj:=ae Aq;have Cd:=ae Br;clear h C HK Bt Bo AN hrel hp Aq Br;go_enter Tryz.func197,Tryz.ntmps197;go_upto_region 1 with fail;generalize (w.alloc (.cells #[.slice (some ⟨pb,po,none⟩) (S.f1 tg).actN cap] 31)).alloc (.cells #[.int .i64 0,.string ⟨#[]⟩,.slice none 0 0] 41)=W2 at A2 z2 kp kr An ⊢;have hzW2:w.heap.size+2<=W2.heap.size:=by omega
 clear z2;have A3:=ae ((q9 W2).alloc ly (.cells #[] 75));have O6:=ae (iO W2 75 3);go_upto_region 2 with fail;generalize W2.alloc (.cells #[] 75)=W3 at A3 O6 ⊢;have A4:=ae ((q9 W3).alloc ly (.cells #[] 239));have O7:=ae (iO W3 239 3);go_wp2_with fail;generalize W3.alloc (.cells #[] 239)=W4 at A4 O7 ⊢;have zX:=ae (A3.out.trans (A4.out.mono A3.out.size));have AW:=ae (A2.out.trans (zX.out.mono A2.out.size));have hw32:W2.heap.size<=W3.heap.size:=A3.out.size;have Bq:Hid (SB w0 hb (.slice a0 S.n0 c0) (.slice a1 S.n1 c1) w making (.slice (some ⟨pb,po,none⟩) (S.f1 tg).actN cap) W4 [] [] M L0 Ax Av Ai W2.heap.size 0 W3.heap.size 0):=by refine⟨An.out.below zX.out ly,aB (own_below O6.out A4.out ly) (by omega),aB O7.out (by omega),fun m hm hd e=>?_,(zX.out.block _ (by omega)).trans kp.out,(zX.out.block _ (by omega)).trans kr.out,KS.of_below AW.out ly ld⟩;have:=(ah (An.out.seen m hm hd) _ e).2.1;omega
 have Bn:Hid (SR w0 S hb (.slice a0 S.n0 c0) (.slice a1 S.n1 c1) w n making tg (.slice (some ⟨pb,po,none⟩) (S.f1 tg).actN cap) L0 R0 W4 [] [] M L0 Ax Av Ai W2.heap.size 0 W3.heap.size 0) :=
  ⟨Bq.out,Bs.out,Bp.out,pL S M,Bj.out,BK.out.symm,Nat.zero_le _,LExt.refl _ _⟩
 clear Bq O6 O7 A3 A4 A2 zX AW An Bs Bp Bj kp kr;go_loopg [6,7] 202 (fun g v6 v7 wr=>∃ f D made L md or st g6 c6 g7 c7,v6=.slice (some ⟨g6,0,none⟩) (List.length (α:=aC) f) c6/\v7=.slice (some ⟨g7,0,none⟩) (List.length (α:=Lk) D) c7/\Hid (SR w0 S hb (.slice a0 S.n0 c0) (.slice a1 S.n1 c1) w n making tg (.slice (some ⟨pb,po,none⟩) (S.f1 tg).actN cap) L0 R0 wr f D made L md or st g6 c6 g7 c7)/\201 - f.length<=g);case atStart=>exact⟨[],[],M,L0,Ax,Av,Ai,_,_,_,_,rfl,rfl,Bn,by simp⟩
 case round =>
  clear Bn;obtain⟨f,D,made,L,md,or,st,g6,c6,g7,c7,rfl,rfl,K,hg⟩:=hrel;have k0:wr.cell? ⟨w.heap.size,0,none⟩=some (.slice (some ⟨pb,po,none⟩) (S.f1 tg).actN cap):=by simp[World.cell?,K.out.sb.kp]
  have hkl:=af K.out.sb.kp;have hy:=K.out.le;have Bv:D.length=f.length:=K.out.rg.len;obtain⟨T,hT⟩:∃ T,T=ci S tg f:=⟨_,rfl⟩
  have HT:=ae hT;have Az:=ae Bv;clear hT Bv;go_wp2_with fail;refine(pT pb po (S.f1 tg).actN cap g6 0 f.length c6 (S.f1 tg).act (yL f) wr (by omega) (BH.out.below K.out.sb.si.bel ly) (yr K.out.sb.r6) BV.out).mono ?_;rintro e w1 ⟨he,hB⟩;rw[uQ CC.out.ok Aw K.out.rg.good K.out.le,<-HT.out] at he;subst he;have BJ:=ae (K.out.sb.below hB ly);have AR:=ae (pM CC.out.ok Aw K.out.rg.good);rw[<-HT.out] at AR;clear hB k0;obtain⟨over,code,text,ask,name,steps⟩:=T;simp only[Turn.v];have A5:=ae ((q9 w1).alloc ly (.cells #[.bool over,.int .i64 code,.string text,.bool ask,.string name,.int .i64 steps] 70));have kt:Hid (TBx (w1.alloc (.cells #[.bool over,.int .i64 code,.string text,.bool ask,.string name,.int .i64 steps] 70)) w1.heap.size over code text ask name steps):=heap_alloc_new _ _;obtain⟨t0,t1,t2,t3,t4⟩:=kt.out.cells;have u:=ae (BJ.out.below A5.out ly);cases over with
  | true =>
   have BU:Hid (R0=.inl (made,(⟨true,code,text,ask,name,steps⟩,D))):=by show _=_;rw[<-K.out.run,show 201 - f.length=(200 - f.length)+1 by omega,dw,<-HT.out,if_pos rfl]
   obtain⟨rl,r0,r1,r2,rf⟩:=aI u.out.kr;have AV:=rf 0;have AJ:=rf 1;have Bg:=rf 2;clear rf;go_wp2_with fail;generalize w1.alloc (.cells #[.bool true,.int .i64 code,.string text,.bool ask,.string name,.int .i64 steps] 70)=W5 at A5 kt u r0 r1 r2 AV AJ Bg rl t0 t1 t2 t3 t4 ⊢;refine bp (v:=.tuple #[.agg #[.int .i64 code,.string text,.slice none 0 0],.slice (some ⟨g7,0,none⟩) D.length c7]) (by simp[results,Tryz.results197,go_sem,r0,r1,r2]) rfl ?_;have Y:w0.heap.size<=w.heap.size+1:=by omega
   have x0:=u.out.si.setOff u.out.kr ⟨by decide,by decide,by decide,by decide⟩ Y 0 (.int .i64 code);have y0:=av u.out.kr (j:=0) (.int .i64 code);have x1:=x0.setOff y0 ⟨by decide,by decide,by decide,by decide⟩ Y 1 (.string text);have y1:=av y0 (j:=1) (.string text);have x2:=x1.setOff y1 ⟨by decide,by decide,by decide,by decide⟩ Y 2 (.slice none 0 0);have Ac:g7≠w.heap.size+1:=fun e=>by obtain⟨_,_,cs,hc⟩:=ah u.out.r7 g7 rfl;exact absurd (ai (e ▸ hc) u.out.kr) (by decide)
   rw[BU.out];refine⟨L,md,or,st,g7,c7,rfl,x2,K.out.rel,ay (ay (ay u.out.r7 (fun e=>Ac (Option.some.inj e)) _ _) (fun e=>Ac (Option.some.inj e)) _ _) (fun e=>Ac (Option.some.inj e)) _ _,u.out.ap,K.out.ext,?_⟩;refine((u.out.kx.trans (KS.setCell (X:=fun i=>i=w.heap.size+1) W5 Y (Or.inl rfl) (.int .i64 code)) ?_).trans (KS.setCell (X:=fun i=>i=w.heap.size+1) _ Y (Or.inl rfl) (.string text)) ?_).trans (KS.setCell (X:=fun i=>i=w.heap.size+1) _ Y (Or.inl rfl) (.slice none 0 0)) ?_;all_goals
    intro i hi h;have e2:i=w.heap.size+1:=h;omega
  | false =>
   have hyl:f.length<200:=by
    rcases AR.out with h | h
    ·exact absurd h.1 (by simp)
    ·exact h.2.1
   have HN:Hid (aw name=true):=by
    rcases AR.out with h | h
    ·exact absurd h.1 (by simp)
    ·exact h.2.2
   cases ask with
   | false =>
    have J:=K.out.run;rw[show 201 - f.length=(200 - f.length)+1 by omega,dw,<-HT.out,if_neg (by simp),if_pos rfl] at J;obtain⟨aq,zZ⟩:∃ aq,aq=iH S name:=⟨_,rfl⟩
    have Bi:=ae zZ;simp only at J;rw[<-zZ] at J;have NX:=ae J;clear J zZ;go_wp2_with fail;clear t0 t1 t2 t3 t4;generalize w1.alloc (.cells #[.bool false,.int .i64 code,.string text,.bool false,.string name,.int .i64 steps] 70)=W5 at A5 kt u ⊢;obtain⟨O,b0,b1,-⟩:=u.out.si.box.facts;refine(lF CC.out W5 name u.out.si.bel O b0 b1).mono ?_;rintro e U ⟨he,hB⟩;rw[<-Bi.out] at he;subst he;have z:=ae (u.out.below hB ly);have bt:Hid (TBx U w1.heap.size false code text false name steps):=(hB.block _ (af kt.out)).trans kt.out;clear hB b0 b1 O;have o:=ae ((q9 U).alloc ly (.cells #[.bool aq,.int .i64 0,.string ⟨#[]⟩] 75));have RA:=ae (own_below z.out.r6 o.out ly);have zN:w.heap.size<=U.heap.size:=z.out.kx.below.size
    go_upto_region 9 with (first
     | (at_builtin;refine aN _ rfl (.tmp 32) (.tmp 35) 68 rfl w.heap.size 75 i6 (.agg #[.bool false,.int .i64 0,.string ⟨#[]⟩]) 3 32 Tryz.underlying68 Ag Ak As At rfl (by decide) (.slice (some ⟨g6,0,none⟩) f.length c6) f.length (gY f) (by simp[Act.eval]) RA.out ⟨U.heap.size,0,none⟩ 1 1 [.bool aq,.int .i64 0,.string ⟨#[]⟩] (by simp[Act.eval]) rfl (dO U _ _ _ _) (by simp[Value.oneCell']) (by unfold maxLen;omega) (by omega) (by simp<;>omega) ?_;intro v3 s H E mv;have O3:=ae H;have G3:=ae E;clear H E mv)
     | fail)
    have P:Hid (∀ (k:Nat) (cs:Array Value) (t:TypeId) (fz:Nat × Nat),(U.alloc (.cells #[.bool aq,.int .i64 0,.string ⟨#[]⟩] 75)).heap[k]?=some (Obj.cells cs t fz)->t≠75->s.heap[k]?=(U.alloc (.cells #[.bool aq,.int .i64 0,.string ⟨#[]⟩] 75)).heap[k]?):=fun k cs t fz R ht=>G3.out.block k (af R) fun e=>by obtain⟨_,_,AK,ro⟩:=ah RA.out k e.symm;exact ht (ai R ro)
    have fd:Hid (TBx s w1.heap.size false code text false name steps):=by have h0:=(o.out.block _ (af bt.out)).trans bt.out;exact(P.out _ _ _ _ h0 (by decide)).trans h0
    have zL:Hid (s.ownsRow w.heap.size 239 3 (.slice (some ⟨g7,0,none⟩) D.length c7) D.length (df D)):=bB (own_below z.out.r7 o.out ly) fun k R=>by obtain⟨_,_,cs,hc⟩:=ah (own_below z.out.r7 o.out ly) k R;exact P.out _ _ _ _ hc (by decide)
    obtain⟨-,-,-,-,n4⟩:=fd.out.cells;have AP:=af fd.out;have A7:=ae ((q9 s).alloc ly (.cells #[.string name,.bool false,.bool aq] 239));have RS:=ae (own_below zL.out A7.out ly);have Bb:w.heap.size<=s.heap.size:=Nat.le_trans (Nat.le_trans zN (by simp<;>omega)) G3.out.size;have n9:=Az.out;obtain⟨A,G⟩:∃ A,A=D.length:=⟨_,rfl⟩
    have zQ:A<=200:=by omega
    have zD:=ae G;rw[<-G] at RS ⊢;clear n9 G
    go_wp2_with (first
     | (at_builtin;refine aN _ rfl (.tmp 37) (.tmp 42) 234 rfl w.heap.size 239 i7 (.agg #[.string ⟨#[]⟩,.bool false,.bool false]) 3 24 Tryz.underlying234 Ar Ao Aj Am rfl (by decide) (.slice (some ⟨g7,0,none⟩) A c7) A (df D) (by simp[Act.eval]) RS.out ⟨s.heap.size,0,none⟩ 1 1 [.string name,.bool false,.bool aq] (by simp[Act.eval]) rfl (dO s _ _ _ _) (by simp[Value.oneCell']) (by unfold maxLen;omega) (by omega) (by simp<;>omega) ?_;intro v4 w4 I B Q;have O4:=ae I;have G4:=ae B;have sm:=ae Q;clear I B Q)
     | fail)
    obtain⟨th,zM,zO,zI,e6,e7,ur⟩:=z.out.more (r:=⟨aq,0,⟨#[]⟩⟩) (l:=⟨name,false,aq⟩) ld o.out O3.out G3.out A7.out (by rw[<-zD.out];exact O4.out) G4.out sm.out;have q:(f++[(⟨aq,0,⟨#[]⟩⟩:aC)]).length=f.length+1:=by simp
    have zH:Hid (SR w0 S hb (.slice a0 S.n0 c0) (.slice a1 S.n1 c1) w n making tg (.slice (some ⟨pb,po,none⟩) (S.f1 tg).actN cap) L0 R0 w4 (f++[⟨aq,0,⟨#[]⟩⟩]) (D++[⟨name,false,aq⟩]) made L md or st th zM zO zI) :=
     ⟨ur,K.out.rel,K.out.pg,(K.out.rg.add (by rw[Bi.out];exact rU _ _) HN.out (fun h=>by cases h)),(by rw[q,show 201 - (f.length+1)=200 - f.length by omega];exact(by have:=K.out.room;unfold dZ at this ⊢;omega)),(by rw[q,show 201 - (f.length+1)=200 - f.length by omega];exact NX.out),(by rw[q];omega),K.out.ext⟩
    obtain⟨g,rfl⟩:∃ g,gk=g+1:=⟨gk - 1,by omega⟩
    go_roundg g;case measure=>omega
    case rel=>exact⟨_,_,_,_,_,_,_,_,_,_,_,e6,e7,zH,by rw[q];omega⟩
   | true =>
    have J:=K.out.run;rw[show 201 - f.length=(200 - f.length)+1 by omega,dw,<-HT.out,if_neg (by simp),if_neg (by simp)] at J;simp only at J;go_wp2_with fail;clear t0 t1 t2 t3 t4;generalize w1.alloc (.cells #[.bool false,.int .i64 code,.string text,.bool true,.string name,.int .i64 steps] 70)=W5 at A5 kt u ⊢;refine(BP.out making made L md or st W5 name Bw u.out.si K.out.rel K.out.pg (by have:=K.out.room;unfold dZ at this ⊢;omega) Cd.out HN.out).mono ?_;intro e U la;rcases hr:bv S n making made name with ⟨V,x⟩ | c | d
    ·rw[hr] at la J
     dsimp only at J;obtain⟨L2,AG,AM,AA,rfl,Bm,A8,AH,hK⟩:=la;obtain⟨Ay,⟨more,Au⟩,hx,Bc⟩:=jm CC.out.ok n making made name V x K.out.pg HN.out hr;have Al:=jl S n making made name V x hr;have Bh:∀ y∈made,y∈V:=fun y hy=>by rw[Au];exact List.mem_append_left _ hy
     have AY:=ae (u.out.step hK Bm AH);have AQ:=ae A8;have AU:=ae Ay;have zU:Hid (RG S V (f++[iG x]) (D++[⟨name,true,false⟩])):=(K.out.rg.mono Bh).add (rV (Ay.ents x hx)) HN.out (fun _=>⟨x,hx,Bc⟩);have Bf:Hid (dZ S making V (200 - f.length)):=by have:=K.out.room;unfold dZ at this ⊢;unfold fk at Al;show _<=_;omega
     have Bd:=ae (K.out.ext.trans AH u.out.kx.below.size);have Ab:Hid (TBx U w1.heap.size false code text true name steps):=(hK.blk _ _ _ _ kt.out (by decide) (by decide) (by decide) fun h=>h).trans kt.out;have NX:=ae J;have zR:=ae (wZ (Ay.ents x hx));have hz25:W5.heap.size<=U.heap.size:=hK.below.size;have hg65:g6<W5.heap.size:=(ah u.out.r6 g6 rfl).2.1;have hw25:w.heap.size+2<=W5.heap.size:=af u.out.kr;rw[Bc] at zR;obtain⟨Z,N,AD⟩:∃ Z N,cY x=⟨Z,N,[]⟩:=by
      rcases zR.out with h | h
      ·exact⟨_,_,h.2.1⟩
      ·exact⟨_,_,h.2.1⟩
     have Ap:=ae AD;simp only[AD];clear Bm A8 AH hK Ay Au hx Bc Al Bh hr J AD;have o:=ae ((q9 U).alloc ly (.cells #[.int .i64 Z,.string N,.slice none 0 0] 41));have AO:Hid ((U.alloc (.cells #[.int .i64 Z,.string N,.slice none 0 0] 41)).heap[U.heap.size]?=some (.cells #[.int .i64 Z,.string N,.slice none 0 0] 41 (0,0))):=heap_alloc_new _ _;obtain⟨O,-,-,-,-,-,-,-,-,b8,-⟩:=AY.out.si.box.facts;have d8:=(o.out.cell (p:=⟨hb,8,none⟩) O).trans b8;obtain⟨rl,r0,r1,-,-⟩:=aI AO.out;go_upto_region 13 with fail;clear d8 b8;generalize U.alloc (.cells #[.int .i64 Z,.string N,.slice none 0 0] 41)=W6 at o AO r0 r1 rl ⊢;have A7:=ae ((q9 W6).alloc ly (.cells #[.bool true,.int .i64 Z,.string N] 75));have ky:Hid ((W6.alloc (.cells #[.bool true,.int .i64 Z,.string N] 75)).heap[W6.heap.size]?=some (.cells #[.bool true,.int .i64 Z,.string N] 75 (0,0))):=heap_alloc_new _ _;go_upto_region 14 with fail;generalize W6.alloc (.cells #[.bool true,.int .i64 Z,.string N] 75)=W7 at A7 ky ⊢;have Bk:=ae (o.out.trans (A7.out.mono o.out.size));have zP:=ae (AY.out.below Bk.out ly);have zS:Hid (TBx W7 w1.heap.size false code text true name steps):=(Bk.out.block _ (af Ab.out)).trans Ab.out;have r7:=(A7.out.cell (p:=⟨U.heap.size,0,none⟩) rl).trans r0;have Aa:U.heap.size<W7.heap.size:=lj rl A7.out.size;obtain⟨-,-,-,-,tn⟩:=zS.out.cells;have zF:=af zS.out;obtain⟨yb,Bu⟩:∃ yb,yb=W6.heap.size:=⟨_,rfl⟩
     rw[<-Bu] at ky ⊢;have Ae:w.heap.size+2<=yb:=by have:=o.out.size;omega
     have Ad:yb≠g6:=by have:=o.out.size;omega
     clear Bu AY Ab A7 o AO r0 r1;obtain⟨zE,b0,b1,-⟩:=zP.out.si.box.facts;rcases zR.out with ⟨AX,zT,zW,zY⟩ | ⟨AX,zT,zW,zY⟩
     ·have e4:Z=4:=by have:=Ap.out;rw[zT] at this;cases this;rfl
      subst e4;rw[zW] at zU NX;have Be:=ae zY;clear zT zW zY AX zR Ap;go_wp2_with fail;refine(lF CC.out W7 name zP.out.si.bel zE b0 b1).mono ?_;rintro e s ⟨he,hB⟩;rw[Be.out] at he;subst he;have BR:=ae (zP.out.below hB ly);have Bl:Hid (TBx s w1.heap.size false code text true name steps):=(hB.block _ zF).trans zS.out;have Ah:=(hB.block _ (af ky.out)).trans ky.out;obtain⟨yl,y0,y1,y2,yf⟩:=aI Ah;have Bz:=yf 0;have Cb:=yf 1;have Cc:=yf 2;have x0:=BR.out.setOff Ah ⟨by decide,by decide,by decide,by decide⟩ ld Ae Ad 0 (.bool false);have x1:=x0.1.setOff x0.2 ⟨by decide,by decide,by decide,by decide⟩ ld Ae Ad 1 (.int .i64 0);have x2:=x1.1.setOff x1.2 ⟨by decide,by decide,by decide,by decide⟩ ld Ae Ad 2 (.string ⟨#[]⟩);have z:=ae x2.1;have KY:=ae x2.2;have AZ:w1.heap.size≠yb:=fun e=>absurd (ai (show s.heap[w1.heap.size]?=_ from Bl.out) (e ▸ Ah)) (by decide);have bt:Hid (TBx (((s.setCell ⟨yb,0,none⟩ (.bool false)).setCell ⟨yb,1,none⟩ (.int .i64 0)).setCell ⟨yb,2,none⟩ (.string ⟨#[]⟩)) w1.heap.size false code text true name steps):=(qh _ _ _ _ AZ).trans ((qh _ _ _ _ AZ).trans ((qh _ _ _ _ AZ).trans Bl.out));clear x0 x1 x2 hB tn b0 b1 zE r7 Aa zF rl Ah;go_upto_region 16 with fail;clear y0 y1 y2 Bz Cb Cc yl;generalize ((s.setCell ⟨yb,0,none⟩ (.bool false)).setCell ⟨yb,1,none⟩ (.int .i64 0)).setCell ⟨yb,2,none⟩ (.string ⟨#[]⟩)=W8 at z KY bt ⊢;obtain⟨yl,y0,y1,y2,-⟩:=aI KY.out;have o:=ae ((q9 W8).alloc ly (.cells #[.bool false,.int .i64 0,.string ⟨#[]⟩] 75));have RA:=ae (own_below z.out.r6 o.out ly);have zN:w.heap.size<=W8.heap.size:=z.out.kx.below.size
      go_upto_region 17 with (first
       | (at_builtin;refine aN _ rfl (.tmp 73) (.tmp 75) 68 rfl w.heap.size 75 i6 (.agg #[.bool false,.int .i64 0,.string ⟨#[]⟩]) 3 32 Tryz.underlying68 Ag Ak As At rfl (by decide) (.slice (some ⟨g6,0,none⟩) f.length c6) f.length (gY f) (by simp[Act.eval]) RA.out ⟨W8.heap.size,0,none⟩ 1 1 [.bool false,.int .i64 0,.string ⟨#[]⟩] (by simp[Act.eval]) rfl (dO W8 _ _ _ _) (by simp[Value.oneCell']) (by unfold maxLen;omega) (by omega) (by simp<;>omega) ?_;intro v3 s H E mv;have O3:=ae H;have G3:=ae E;clear H E mv)
       | fail)
      have P:Hid (∀ (k:Nat) (cs:Array Value) (t:TypeId) (fz:Nat × Nat),(W8.alloc (.cells #[.bool false,.int .i64 0,.string ⟨#[]⟩] 75)).heap[k]?=some (Obj.cells cs t fz)->t≠75->s.heap[k]?=(W8.alloc (.cells #[.bool false,.int .i64 0,.string ⟨#[]⟩] 75)).heap[k]?):=fun k cs t fz R ht=>G3.out.block k (af R) fun e=>by obtain⟨_,_,AK,ro⟩:=ah RA.out k e.symm;exact ht (ai R ro)
      have fd:Hid (TBx s w1.heap.size false code text true name steps):=by have h0:=(o.out.block _ (af bt.out)).trans bt.out;exact(P.out _ _ _ _ h0 (by decide)).trans h0
      have zL:Hid (s.ownsRow w.heap.size 239 3 (.slice (some ⟨g7,0,none⟩) D.length c7) D.length (df D)):=bB (own_below z.out.r7 o.out ly) fun k R=>by obtain⟨_,_,cs,hc⟩:=ah (own_below z.out.r7 o.out ly) k R;exact P.out _ _ _ _ hc (by decide)
      obtain⟨-,-,-,-,n4⟩:=fd.out.cells;have AP:=af fd.out;have A7:=ae ((q9 s).alloc ly (.cells #[.string name,.bool true,.bool false] 239));have RS:=ae (own_below zL.out A7.out ly);have Bb:w.heap.size<=s.heap.size:=Nat.le_trans (Nat.le_trans zN (by simp<;>omega)) G3.out.size;have n9:=Az.out;obtain⟨A,G⟩:∃ A,A=D.length:=⟨_,rfl⟩
      have zQ:A<=200:=by omega
      have zD:=ae G;rw[<-G] at RS ⊢;clear n9 G
      go_wp2_with (first
       | (at_builtin;refine aN _ rfl (.tmp 77) (.tmp 81) 234 rfl w.heap.size 239 i7 (.agg #[.string ⟨#[]⟩,.bool false,.bool false]) 3 24 Tryz.underlying234 Ar Ao Aj Am rfl (by decide) (.slice (some ⟨g7,0,none⟩) A c7) A (df D) (by simp[Act.eval]) RS.out ⟨s.heap.size,0,none⟩ 1 1 [.string name,.bool true,.bool false] (by simp[Act.eval]) rfl (dO s _ _ _ _) (by simp[Value.oneCell']) (by unfold maxLen;omega) (by omega) (by simp<;>omega) ?_;intro v4 w4 I B Q;have O4:=ae I;have G4:=ae B;have sm:=ae Q;clear I B Q)
       | fail)
      obtain⟨th,zM,zO,zI,e6,e7,ur⟩:=z.out.more (r:=⟨false,0,⟨#[]⟩⟩) (l:=⟨name,true,false⟩) ld o.out O3.out G3.out A7.out (by rw[<-zD.out];exact O4.out) G4.out sm.out;have q:(f++[(⟨false,0,⟨#[]⟩⟩:aC)]).length=f.length+1:=by simp
      have zH:Hid (SR w0 S hb (.slice a0 S.n0 c0) (.slice a1 S.n1 c1) w n making tg (.slice (some ⟨pb,po,none⟩) (S.f1 tg).actN cap) L0 R0 w4 (f++[⟨false,0,⟨#[]⟩⟩]) (D++[⟨name,true,false⟩]) V L2 AG AM AA th zM zO zI) :=
       ⟨ur,AQ.out,AU.out,zU.out,(by rw[q,show 201 - (f.length+1)=200 - f.length by omega];exact Bf.out),(by rw[q,show 201 - (f.length+1)=200 - f.length by omega];exact NX.out),(by rw[q];omega),Bd.out⟩
      obtain⟨g,rfl⟩:∃ g,gk=g+1:=⟨gk - 1,by omega⟩
      go_roundg g;case measure=>omega
      case rel=>exact⟨_,_,_,_,_,_,_,_,_,_,_,e6,e7,zH,by rw[q];omega⟩
     ·have e1:Z=x.code/\N=x.text:=by have:=Ap.out;rw[zT] at this;cases this;exact⟨rfl,rfl⟩
      rw[zW,<-e1.1,<-e1.2] at zU NX;have Be:=ae zY;clear zT zW zY AX zR Ap e1;by_cases h4:Z=4
      ·subst h4
       go_wp2_with fail;refine(lF CC.out W7 name zP.out.si.bel zE b0 b1).mono ?_;rintro e w8 ⟨he,hB⟩;rw[Be.out] at he;subst he;have z:=ae (zP.out.below hB ly);have bt:Hid (TBx w8 w1.heap.size false code text true name steps):=(hB.block _ zF).trans zS.out;obtain⟨yl,y0,y1,y2,-⟩:=aI ((hB.block _ (af ky.out)).trans ky.out);clear hB tn b0 b1 zE r7 Aa zF rl;go_upto_region 16 with fail;have o:=ae ((q9 w8).alloc ly (.cells #[.bool true,.int .i64 4,.string N] 75));have RA:=ae (own_below z.out.r6 o.out ly);have zN:w.heap.size<=w8.heap.size:=z.out.kx.below.size
       go_upto_region 17 with (first
        | (at_builtin;refine aN _ rfl (.tmp 73) (.tmp 75) 68 rfl w.heap.size 75 i6 (.agg #[.bool false,.int .i64 0,.string ⟨#[]⟩]) 3 32 Tryz.underlying68 Ag Ak As At rfl (by decide) (.slice (some ⟨g6,0,none⟩) f.length c6) f.length (gY f) (by simp[Act.eval]) RA.out ⟨w8.heap.size,0,none⟩ 1 1 [.bool true,.int .i64 4,.string N] (by simp[Act.eval]) rfl (dO w8 _ _ _ _) (by simp[Value.oneCell']) (by unfold maxLen;omega) (by omega) (by simp<;>omega) ?_;intro v3 s H E mv;have O3:=ae H;have G3:=ae E;clear H E mv)
        | fail)
       have P:Hid (∀ (k:Nat) (cs:Array Value) (t:TypeId) (fz:Nat × Nat),(w8.alloc (.cells #[.bool true,.int .i64 4,.string N] 75)).heap[k]?=some (Obj.cells cs t fz)->t≠75->s.heap[k]?=(w8.alloc (.cells #[.bool true,.int .i64 4,.string N] 75)).heap[k]?):=fun k cs t fz R ht=>G3.out.block k (af R) fun e=>by obtain⟨_,_,AK,ro⟩:=ah RA.out k e.symm;exact ht (ai R ro)
       have fd:Hid (TBx s w1.heap.size false code text true name steps):=by have h0:=(o.out.block _ (af bt.out)).trans bt.out;exact(P.out _ _ _ _ h0 (by decide)).trans h0
       have zL:Hid (s.ownsRow w.heap.size 239 3 (.slice (some ⟨g7,0,none⟩) D.length c7) D.length (df D)):=bB (own_below z.out.r7 o.out ly) fun k R=>by obtain⟨_,_,cs,hc⟩:=ah (own_below z.out.r7 o.out ly) k R;exact P.out _ _ _ _ hc (by decide)
       obtain⟨-,-,-,-,n4⟩:=fd.out.cells;have AP:=af fd.out;have A7:=ae ((q9 s).alloc ly (.cells #[.string name,.bool true,.bool false] 239));have RS:=ae (own_below zL.out A7.out ly);have Bb:w.heap.size<=s.heap.size:=Nat.le_trans (Nat.le_trans zN (by simp<;>omega)) G3.out.size;have n9:=Az.out;obtain⟨A,G⟩:∃ A,A=D.length:=⟨_,rfl⟩
       have zQ:A<=200:=by omega
       have zD:=ae G;rw[<-G] at RS ⊢;clear n9 G
       go_wp2_with (first
        | (at_builtin;refine aN _ rfl (.tmp 77) (.tmp 81) 234 rfl w.heap.size 239 i7 (.agg #[.string ⟨#[]⟩,.bool false,.bool false]) 3 24 Tryz.underlying234 Ar Ao Aj Am rfl (by decide) (.slice (some ⟨g7,0,none⟩) A c7) A (df D) (by simp[Act.eval]) RS.out ⟨s.heap.size,0,none⟩ 1 1 [.string name,.bool true,.bool false] (by simp[Act.eval]) rfl (dO s _ _ _ _) (by simp[Value.oneCell']) (by unfold maxLen;omega) (by omega) (by simp<;>omega) ?_;intro v4 w4 I B Q;have O4:=ae I;have G4:=ae B;have sm:=ae Q;clear I B Q)
        | fail)
       obtain⟨th,zM,zO,zI,e6,e7,ur⟩:=z.out.more (r:=⟨true,4,N⟩) (l:=⟨name,true,false⟩) ld o.out O3.out G3.out A7.out (by rw[<-zD.out];exact O4.out) G4.out sm.out;have q:(f++[(⟨true,4,N⟩:aC)]).length=f.length+1:=by simp
       have zH:Hid (SR w0 S hb (.slice a0 S.n0 c0) (.slice a1 S.n1 c1) w n making tg (.slice (some ⟨pb,po,none⟩) (S.f1 tg).actN cap) L0 R0 w4 (f++[⟨true,4,N⟩]) (D++[⟨name,true,false⟩]) V L2 AG AM AA th zM zO zI) :=
        ⟨ur,AQ.out,AU.out,zU.out,(by rw[q,show 201 - (f.length+1)=200 - f.length by omega];exact Bf.out),(by rw[q,show 201 - (f.length+1)=200 - f.length by omega];exact NX.out),(by rw[q];omega),Bd.out⟩
       obtain⟨g,rfl⟩:∃ g,gk=g+1:=⟨gk - 1,by omega⟩
       go_roundg g;case measure=>omega
       case rel=>exact⟨_,_,_,_,_,_,_,_,_,_,_,e6,e7,zH,by rw[q];omega⟩
      ·have h4b:(Z == 4)=false:=by simpa using h4
       have z:=zP;have bt:=zS;obtain⟨yl,y0,y1,y2,-⟩:=aI ky.out;go_upto_region 16 with fail;clear tn b0 b1 zE r7 Aa zF rl;have o:=ae ((q9 W7).alloc ly (.cells #[.bool true,.int .i64 Z,.string N] 75));have RA:=ae (own_below z.out.r6 o.out ly);have zN:w.heap.size<=W7.heap.size:=z.out.kx.below.size
       go_upto_region 17 with (first
        | (at_builtin;refine aN _ rfl (.tmp 73) (.tmp 75) 68 rfl w.heap.size 75 i6 (.agg #[.bool false,.int .i64 0,.string ⟨#[]⟩]) 3 32 Tryz.underlying68 Ag Ak As At rfl (by decide) (.slice (some ⟨g6,0,none⟩) f.length c6) f.length (gY f) (by simp[Act.eval]) RA.out ⟨W7.heap.size,0,none⟩ 1 1 [.bool true,.int .i64 Z,.string N] (by simp[Act.eval]) rfl (dO W7 _ _ _ _) (by simp[Value.oneCell']) (by unfold maxLen;omega) (by omega) (by simp<;>omega) ?_;intro v3 s H E mv;have O3:=ae H;have G3:=ae E;clear H E mv)
        | fail)
       have P:Hid (∀ (k:Nat) (cs:Array Value) (t:TypeId) (fz:Nat × Nat),(W7.alloc (.cells #[.bool true,.int .i64 Z,.string N] 75)).heap[k]?=some (Obj.cells cs t fz)->t≠75->s.heap[k]?=(W7.alloc (.cells #[.bool true,.int .i64 Z,.string N] 75)).heap[k]?):=fun k cs t fz R ht=>G3.out.block k (af R) fun e=>by obtain⟨_,_,AK,ro⟩:=ah RA.out k e.symm;exact ht (ai R ro)
       have fd:Hid (TBx s w1.heap.size false code text true name steps):=by have h0:=(o.out.block _ (af bt.out)).trans bt.out;exact(P.out _ _ _ _ h0 (by decide)).trans h0
       have zL:Hid (s.ownsRow w.heap.size 239 3 (.slice (some ⟨g7,0,none⟩) D.length c7) D.length (df D)):=bB (own_below z.out.r7 o.out ly) fun k R=>by obtain⟨_,_,cs,hc⟩:=ah (own_below z.out.r7 o.out ly) k R;exact P.out _ _ _ _ hc (by decide)
       obtain⟨-,-,-,-,n4⟩:=fd.out.cells;have AP:=af fd.out;have A7:=ae ((q9 s).alloc ly (.cells #[.string name,.bool true,.bool false] 239));have RS:=ae (own_below zL.out A7.out ly);have Bb:w.heap.size<=s.heap.size:=Nat.le_trans (Nat.le_trans zN (by simp<;>omega)) G3.out.size;have n9:=Az.out;obtain⟨A,G⟩:∃ A,A=D.length:=⟨_,rfl⟩
       have zQ:A<=200:=by omega
       have zD:=ae G;rw[<-G] at RS ⊢;clear n9 G
       go_wp2_with (first
        | (at_builtin;refine aN _ rfl (.tmp 77) (.tmp 81) 234 rfl w.heap.size 239 i7 (.agg #[.string ⟨#[]⟩,.bool false,.bool false]) 3 24 Tryz.underlying234 Ar Ao Aj Am rfl (by decide) (.slice (some ⟨g7,0,none⟩) A c7) A (df D) (by simp[Act.eval]) RS.out ⟨s.heap.size,0,none⟩ 1 1 [.string name,.bool true,.bool false] (by simp[Act.eval]) rfl (dO s _ _ _ _) (by simp[Value.oneCell']) (by unfold maxLen;omega) (by omega) (by simp<;>omega) ?_;intro v4 w4 I B Q;have O4:=ae I;have G4:=ae B;have sm:=ae Q;clear I B Q)
        | fail)
       obtain⟨th,zM,zO,zI,e6,e7,ur⟩:=z.out.more (r:=⟨true,Z,N⟩) (l:=⟨name,true,false⟩) ld o.out O3.out G3.out A7.out (by rw[<-zD.out];exact O4.out) G4.out sm.out;have q:(f++[(⟨true,Z,N⟩:aC)]).length=f.length+1:=by simp
       have zH:Hid (SR w0 S hb (.slice a0 S.n0 c0) (.slice a1 S.n1 c1) w n making tg (.slice (some ⟨pb,po,none⟩) (S.f1 tg).actN cap) L0 R0 w4 (f++[⟨true,Z,N⟩]) (D++[⟨name,true,false⟩]) V L2 AG AM AA th zM zO zI) :=
        ⟨ur,AQ.out,AU.out,zU.out,(by rw[q,show 201 - (f.length+1)=200 - f.length by omega];exact Bf.out),(by rw[q,show 201 - (f.length+1)=200 - f.length by omega];exact NX.out),(by rw[q];omega),Bd.out⟩
       obtain⟨g,rfl⟩:∃ g,gk=g+1:=⟨gk - 1,by omega⟩
       go_roundg g;case measure=>omega
       case rel=>exact⟨_,_,_,_,_,_,_,_,_,_,_,e6,e7,zH,by rw[q];omega⟩
    ·rw[hr] at la J
     obtain⟨ca,ck,rfl,⟨q0,q1,qm,qo,qs,ex,zG⟩,hK⟩:=la;dsimp only at J;subst J;simp only[eP] at ex zG;obtain⟨O,-,-,-,-,-,b5,b6,b7,b8,-⟩:=ex.facts;have qr:=(hK.blk _ _ _ _ u.out.kr (by decide) (by decide) (by decide) fun h=>h).trans u.out.kr;have KW:=ae (u.out.kx.to hK);have AF:=ae ex;have zV:=ae zG;have o:=ae ((q9 U).alloc ly (.cells #[.int .i64 6,.string ⟨#[]⟩,(.slice ca c.length ck)] 41));have zK:=(o.out.block _ (af qr)).trans qr;obtain⟨rl,r0,r1,r2,rf⟩:=aI zK;have d5:=(o.out.cell (p:=⟨hb,5,none⟩) O).trans b5;have d6:=(o.out.cell (p:=⟨hb,6,none⟩) O).trans b6;have d7:=(o.out.cell (p:=⟨hb,7,none⟩) O).trans b7;have d8:=(o.out.cell (p:=⟨hb,8,none⟩) O).trans b8;have AV:=rf 0;have AJ:=rf 1;have Bg:=rf 2;have n8:hb≠w.heap.size+1:=fun e=>absurd (ai (e ▸ ex) qr) (by decide);have AE:=ae zK;clear rf ex zG hK b5 b6 b7 b8 qr zK;simp only[fF,eP];go_wp2_with fail;refine bp (v:=.tuple #[fF (eP c) (.slice ca c.length ck),.slice (some ⟨g7,0,none⟩) D.length c7]) (by simp[results,Tryz.results197,go_sem,r0,r1,r2,fF,eP]) rfl ?_;have Y:w0.heap.size<=w.heap.size+1:=by omega
     have Af:∀ (W:World) (v0 v1 v2:Value),(((W.setCell ⟨w.heap.size+1,0,none⟩ v0).setCell ⟨w.heap.size+1,1,none⟩ v1).setCell ⟨w.heap.size+1,2,none⟩ v2).heap[hb]?=W.heap[hb]?:=fun W v0 v1 v2=>(qh _ _ _ _ n8).trans ((qh _ _ _ _ n8).trans (qh _ _ _ _ n8));have zJ:∀ k,(Value.ownBlock (.slice ca c.length ck))=some k->k≠w.heap.size+1:=fun k R e=>by obtain⟨_,_,cs,hc⟩:=ah (own_below zV.out o.out ly) k R;exact absurd (ai (e ▸ hc) AE.out) (by decide)
     refine⟨ca,ck,.slice (some ⟨g7,0,none⟩) D.length c7,rfl,⟨q0,q1,qm,qo,qs,(Af _ _ _ _).trans ((o.out.block _ O).trans AF.out),ay (ay (ay (own_below zV.out o.out ly) (fun e=>zJ _ e rfl) _ _) (fun e=>zJ _ e rfl) _ _) (fun e=>zJ _ e rfl) _ _⟩,?_⟩;refine((((KW.out.to (KS.of_below o.out ly (Nat.le_trans ld KW.out.below.size))).trans (KS.setCell (X:=fun i=>i=w.heap.size+1) _ Y (Or.inl rfl) _) ?_).trans (KS.setCell (X:=fun i=>i=w.heap.size+1) _ Y (Or.inl rfl) _) ?_).trans (KS.setCell (X:=fun i=>i=w.heap.size+1) _ Y (Or.inl rfl) _) ?_);all_goals
      intro i hi h;have e2:i=w.heap.size+1:=h;omega
    ·rw[hr] at la J
     obtain⟨rfl,⟨q0,q1,qm,qo,qs,ex,zG⟩,hK⟩:=la;dsimp only at J;subst J;simp only[eQ] at ex zG;obtain⟨O,-,-,-,-,-,b5,b6,b7,b8,-⟩:=ex.facts;have qr:=(hK.blk _ _ _ _ u.out.kr (by decide) (by decide) (by decide) fun h=>h).trans u.out.kr;have KW:=ae (u.out.kx.to hK);have AF:=ae ex;have zV:=ae zG;have o:=ae ((q9 U).alloc ly (.cells #[.int .i64 7,.string d,(.slice none 0 0)] 41));have zK:=(o.out.block _ (af qr)).trans qr;obtain⟨rl,r0,r1,r2,rf⟩:=aI zK;have d5:=(o.out.cell (p:=⟨hb,5,none⟩) O).trans b5;have d6:=(o.out.cell (p:=⟨hb,6,none⟩) O).trans b6;have d7:=(o.out.cell (p:=⟨hb,7,none⟩) O).trans b7;have d8:=(o.out.cell (p:=⟨hb,8,none⟩) O).trans b8;have AV:=rf 0;have AJ:=rf 1;have Bg:=rf 2;have n8:hb≠w.heap.size+1:=fun e=>absurd (ai (e ▸ ex) qr) (by decide);have AE:=ae zK;clear rf ex zG hK b5 b6 b7 b8 qr zK;simp only[fF,eQ];go_wp2_with fail;refine bp (v:=.tuple #[fF (eQ d) (.slice none 0 0),.slice (some ⟨g7,0,none⟩) D.length c7]) (by simp[results,Tryz.results197,go_sem,r0,r1,r2,fF,eQ]) rfl ?_;have Y:w0.heap.size<=w.heap.size+1:=by omega
     have Af:∀ (W:World) (v0 v1 v2:Value),(((W.setCell ⟨w.heap.size+1,0,none⟩ v0).setCell ⟨w.heap.size+1,1,none⟩ v1).setCell ⟨w.heap.size+1,2,none⟩ v2).heap[hb]?=W.heap[hb]?:=fun W v0 v1 v2=>(qh _ _ _ _ n8).trans ((qh _ _ _ _ n8).trans (qh _ _ _ _ n8));have zJ:∀ k,(Value.ownBlock (.slice none 0 0))=some k->k≠w.heap.size+1:=fun k R e=>by obtain⟨_,_,cs,hc⟩:=ah (own_below zV.out o.out ly) k R;exact absurd (ai (e ▸ hc) AE.out) (by decide)
     refine⟨.slice (some ⟨g7,0,none⟩) D.length c7,rfl,⟨q0,q1,qm,qo,qs,(Af _ _ _ _).trans ((o.out.block _ O).trans AF.out),ay (ay (ay (own_below zV.out o.out ly) (fun e=>zJ _ e rfl) _ _) (fun e=>zJ _ e rfl) _ _) (fun e=>zJ _ e rfl) _ _⟩,?_⟩;refine((((KW.out.to (KS.of_below o.out ly (Nat.le_trans ld KW.out.below.size))).trans (KS.setCell (X:=fun i=>i=w.heap.size+1) _ Y (Or.inl rfl) _) ?_).trans (KS.setCell (X:=fun i=>i=w.heap.size+1) _ Y (Or.inl rfl) _) ?_).trans (KS.setCell (X:=fun i=>i=w.heap.size+1) _ Y (Or.inl rfl) _) ?_);all_goals
      intro i hi h;have e2:i=w.heap.size+1:=h;omega
end
end Go.Proofs.YtkophfgkcijjkaaGreatDoor.Vp
