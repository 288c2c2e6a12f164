import Derived.Test.YtkophfgkcijjkaaGreatDoorYO
import Derived.Test.YtkophfgkcijjkaaGreatDoorYI
import Derived.Deep.Cut
set_option maxRecDepth 1000000
set_option maxHeartbeats 8000000
namespace Go.Proofs.YtkophfgkcijjkaaGreatDoor.Vp
open RowKit
structure SB (w0:World)(hb:Nat)(s0 s1:Value)(w:World)(making:List ByteArray)(pv:Value)(wr:World)(ys:List aw)(ls:List Lk)(made:List Ent)(L:List SM)(md or st:Value)(g6 c6 g7 c7:Nat):Prop where
 si:SI w0 hb s0 s1 wr making made L md or st
 r6:wr.ownsRow w.heap.size 75 3 (.slice (some ⟨g6,0,none⟩) ys.length c6) ys.length (d9 ys)
 r7:wr.ownsRow w.heap.size 239 3 (.slice (some ⟨g7,0,none⟩) ls.length c7) ls.length (da ls)
 ap:∀ m∈L,m.done=true→m.sv.ownBlock≠some g7
 kp:wr.heap[w.heap.size]?=some (.cells #[pv] 31 (0,0))
 kr:wr.heap[w.heap.size+1]?=some (.cells #[.int .i64 0,.string ⟨#[]⟩,.slice none 0 0] 41 (0,0))
 kx:KS w0.heap.size XN w wr
structure SR (w0:World)(S:Spc)(hb:Nat)(s0 s1:Value)(w:World)(n:Nat)(making:List ByteArray)(tg:Nat)(pv:Value)(L0:List SM)(R0:Out (Turn × List Lk))(wr:World)(ys:List aw)(ls:List Lk)(made:List Ent)(L:List SM)(md or st:Value)(g6 c6 g7 c7:Nat):Prop where
 sb:SB w0 hb s0 s1 w making pv wr ys ls made L md or st g6 c6 g7 c7
 rel:ep L making made
 pg:PG S making made
 rg:RG S made ys ls
 room:eo S making made (201 - ys.length)
 run:bD S (aG S n making) tg (201 - ys.length) made ys ls=R0
 le:ys.length≤200
 ext:LExt w.heap.size L0 L
def TBx (w:World)(g:Nat)(over:Bool)(code:Int)(text:ByteArray)(ask:Bool)(name:ByteArray)(steps:Int):Prop:=w.heap[g]?=some (.cells #[.bool over,.int .i64 code,.string text,.bool ask,.string name,.int .i64 steps] 70 (0,0))
theorem TBx.cells {w:World}{g:Nat}{over:Bool}{code:Int}{text:ByteArray}{ask:Bool}{name:ByteArray}{steps:Int}(h:TBx w g over code text ask name steps):w.cell? ⟨g,0,none⟩=some (.bool over)∧w.cell? ⟨g,1,none⟩=some (.int .i64 code)∧w.cell? ⟨g,2,none⟩=some (.string text)∧w.cell? ⟨g,3,none⟩=some (.bool ask)∧w.cell? ⟨g,4,none⟩=some (.string name):=by
 unfold TBx at h
 refine ⟨?_,?_,?_,?_,?_⟩
 all_goals simp [World.cell?,h]
def oz (w0:World)(hb:Nat)(s0 s1:Value)(making:List ByteArray)(L:List SM)(w:World)(e:Ending)(w':World):Out (Turn × List Lk)→Prop
 | .inl (made',x)=>∃ L' md' or' st' g c,e=.returned (.tuple #[.agg #[.int .i64 x.1.code,.string x.1.text,.slice none 0 0],.slice (some ⟨g,0,none⟩) x.2.length c])∧SI w0 hb s0 s1 w' making made' L' md' or' st'∧ep L' making made'∧w'.ownsRow w.heap.size 239 3 (.slice (some ⟨g,0,none⟩) x.2.length c) x.2.length (da x.2)∧(∀ m∈L',m.done=true→m.sv.ownBlock≠some g)∧LExt w.heap.size L L'∧KS w0.heap.size XN w w'
 | .inr (.inl c)=>∃ a k sv,e=.returned (.tuple #[fb (eE c) (.slice a c.length k),sv])∧gJ w0 hb w' (eE c) (.slice a c.length k)∧KS w0.heap.size XN w w'
 | .inr (.inr d)=>∃ sv,e=.returned (.tuple #[fb (eF d) (.slice none 0 0),sv])∧gJ w0 hb w' (eF d) (.slice none 0 0)∧KS w0.heap.size XN w w'
theorem du (w:World)(v0 v1 v2:Value)(t:TypeId):∀ j u,[v0,v1,v2][j]?=some u→(w.alloc (.cells #[v0,v1,v2] t)).cell? ((⟨w.heap.size,0,none⟩:Addr).add j)=some u:=by
 intro j u h
 rw [addr_add]
 have hj:j<3:=by
  rcases Nat.lt_or_ge j 3 with h' | h'
  ·exact h'
  ·rw [List.getElem?_eq_none (by simp;omega)] at h;cases h
 rcases (show j=0∨j=1∨j=2 by omega) with rfl | rfl | rfl
 all_goals
  simp at h
  subst h
  simp
theorem aE {w:World}{b:Nat}{v0 v1 v2:Value}{t:TypeId}(h:w.heap[b]?=some (.cells #[v0,v1,v2] t (0,0))):b<w.heap.size∧w.cell? ⟨b,0,none⟩=some v0∧w.cell? ⟨b,1,none⟩=some v1∧w.cell? ⟨b,2,none⟩=some v2∧∀ j,w.frozen? ⟨b,j,none⟩=false:=by
 refine ⟨ai h,?_,?_,?_,fun j=>?_⟩
 all_goals simp [World.cell?,World.frozen?,h]
section
variable {w0 w w':World}{hb:Nat}{s0 s1 md or st:Value}{making:List ByteArray}{made:List Ent}{L:List SM}
theorem SI.grown {v:Value}{base size n:Nat}{e:TypeId}{xs:List Value}(h:SI w0 hb s0 s1 w making made L md or st)(hg:w.grownBy w' v.ownBlock)(ho:w.ownsRow base e size v n xs)(hB:w0.heap.size≤base)(he:e≠9∧e≠236∧e≠125)(ha:∀ m∈L,m.done=true→∀ k,v.ownBlock=some k→m.sv.ownBlock≠some k):SI w0 hb s0 s1 w' making made L md or st:=by
 have hv:=af ho
 have hbl:∀ (i:Nat) (cs:Array Value) (t:TypeId) (fz:Nat × Nat),w.heap[i]?=some (Obj.cells cs t fz)→t≠e→w'.heap[i]?=w.heap[i]?:=fun i cs t fz hi hte=>hg.block i (ai hi) fun e2=>by
  obtain ⟨_,_,cs2,hc⟩:=hv i e2.symm
  exact hte (ah hi hc)
 have hrow:∀ {size n:Nat} {t:TypeId} {u:Value} {ys:List Value},w.ownsRow w0.heap.size t size u n ys→t≠e→w'.ownsRow w0.heap.size t size u n ys:=fun hr hte=>bg hr fun k hk=>by
  obtain ⟨_,_,cs,hc⟩:=af hr k hk
  exact hbl _ _ _ _ hc hte
 refine ⟨h.bel.trans ⟨hg.os,hg.tape,hg.output,hg.size,fun k hk=>hg.block k (ll hk h.lt) fun e2=>?_⟩,h.hbB,h.box.blk (hbl _ _ _ _ h.box he.2.2.symm),hrow h.rmd he.2.1.symm,hrow h.ror he.1.symm,hrow h.rst he.1.symm,h.apart,fun m hm hd=>bg (h.seen m hm hd) fun k hk=>?_⟩
 ·have:=(hv k e2.symm).1
  omega
 ·obtain ⟨_,hl,cs,hc⟩:=af (h.seen m hm hd) k hk
  exact hg.block k hl fun e2=>ha m hm hd k e2.symm hk
theorem KS.grow {v:Value}{base size n:Nat}{e:TypeId}{xs:List Value}{W:World}{B:Nat}(h:KS B XN W w)(hg:w.grownBy w' v.ownBlock)(ho:w.ownsRow base e size v n xs)(hW:W.heap.size≤base)(hB:B≤W.heap.size):KS B XN W w' :=
 h.trans (Y:=fun i=>v.ownBlock=some i) (KS.of_grown hg (Nat.le_trans hB h.below.size) fun j hj=>⟨Nat.le_trans (Nat.le_trans hB hW) (af ho j hj).1,.inl hj⟩) fun i hi hy=>by
  have:=(af ho i hy).1
  omega
theorem SB.below {W wr wr':World}{pv:Value}{ys:List aw}{ls:List Lk}{g6 c6 g7 c7 C:Nat}(h:SB w0 hb s0 s1 W making pv wr ys ls made L md or st g6 c6 g7 c7)(hb2:Below C wr wr')(hC:wr.heap.size≤C):SB w0 hb s0 s1 W making pv wr' ys ls made L md or st g6 c6 g7 c7 :=
 ⟨h.si.below hb2 hC,own_below h.r6 hb2 hC,own_below h.r7 hb2 hC,h.ap,(hb2.block _ (ll (ai h.kp) hC)).trans h.kp,(hb2.block _ (ll (ai h.kr) hC)).trans h.kr,h.kx.to (KS.of_below hb2 hC h.si.lt)⟩
theorem SB.more {W w2 W3 w3 W4 w4:World}{pv v3 v4:Value}{ys:List aw}{ls:List Lk}{g6 c6 g7 c7:Nat}{r:aw}{l:Lk}(h:SB w0 hb s0 s1 W making pv w2 ys ls made L md or st g6 c6 g7 c7)(hB:w0.heap.size≤W.heap.size)
  (b3:Below w2.heap.size w2 W3) (o3:w3.ownsRow W.heap.size 75 3 v3 (ys.length+1) (d9 ys++[.bool r.has,.int .i64 r.code,.string r.text])) (q3:W3.grownBy w3 (some g6))
  (b4:Below w3.heap.size w3 W4) (o4:w4.ownsRow W.heap.size 239 3 v4 (ls.length+1) (da ls++[.string l.name,.bool l.ask,.bool l.has])) (q4:W4.grownBy w4 (some g7)) (a4:v4.ownBlock=some g7∨v4.ownBlock=some W4.heap.size) :
  ∃ g6' c6' g7' c7',v3=.slice (some ⟨g6',0,none⟩) (ys++[r]).length c6'∧v4=.slice (some ⟨g7',0,none⟩) (ls++[l]).length c7'∧SB w0 hb s0 s1 W making pv w4 (ys++[r]) (ls++[l]) made L md or st g6' c6' g7' c7':=by
 have h3:=h.below b3 lr 
 have hkp:W.heap.size<W3.heap.size:=ai h3.kp
 have hkr:W.heap.size+1<W3.heap.size:=ai h3.kr
 have g6t:=af h3.r6 g6 rfl
 obtain ⟨hg6,hg6l,cs6,hcs6⟩:=g6t
 have s3:=h3.si.grown (v:=.slice (some ⟨g6,0,none⟩) ys.length c6) q3 h3.r6 hB ⟨by decide,by decide,by decide⟩ (fun m hm hd k hk e=>by
  cases hk
  obtain ⟨_,_,cs,hc⟩:=af (h3.si.seen m hm hd) g6 e
  exact absurd (ah hcs6 hc) (by decide))
 have k3:=KS.grow (v:=.slice (some ⟨g6,0,none⟩) ys.length c6) h3.kx q3 h3.r6 lr hB
 have r73:w3.ownsRow W.heap.size 239 3 (.slice (some ⟨g7,0,none⟩) ls.length c7) ls.length (da ls):=bg h3.r7 fun k hk=>by
  obtain ⟨_,hl,cs,hc⟩:=af h3.r7 k hk
  exact q3.block k hl fun e=>by cases e;exact absurd (ah hcs6 hc) (by decide)
 have kp3:=(q3.block W.heap.size hkp fun e=>by cases e;exact absurd (ah hcs6 h3.kp) (by decide)).trans h3.kp
 have kr3:=(q3.block (W.heap.size+1) hkr fun e=>by have e2:=Option.some.inj e;exact absurd (ah hcs6 (e2 ▸ h3.kr)) (by decide)).trans h3.kr
 obtain ⟨g6',c6',cu6,rfl,-⟩:=o3.2.resolve_left (fun h=>by omega)
 have s4:=s3.below b4 lr 
 have r74:=own_below r73 b4 lr 
 obtain ⟨hg7,hg7l,cs7,hcs7⟩:=af r74 g7 rfl
 have kp4:=(b4.block W.heap.size (ai kp3)).trans kp3
 have kr4:=(b4.block (W.heap.size+1) (ai kr3)).trans kr3
 have s5:=s4.grown (v:=.slice (some ⟨g7,0,none⟩) ls.length c7) q4 r74 hB ⟨by decide,by decide,by decide⟩ (fun m hm hd k hk e=>by cases hk;exact h.ap m hm hd e)
 have k5:=KS.grow (v:=.slice (some ⟨g7,0,none⟩) ls.length c7) (k3.to (KS.of_below b4 lr s3.lt)) q4 r74 lr hB
 obtain ⟨g7',c7',cu7,rfl,-⟩:=o4.2.resolve_left (fun h=>by omega)
 have e6:(ys++[r]).length=ys.length+1:=by simp
 have e7:(ls++[l]).length=ls.length+1:=by simp
 refine ⟨g6',c6',g7',c7',by rw [e6],by rw [e7],s5,?_,?_,fun m hm hd e=>?_,?_,?_,k5⟩
 ·rw [e6,ou]
  refine bg (own_below o3 b4 lr) fun k hk=>?_
  obtain ⟨_,hl,cs,hc⟩:=af (own_below o3 b4 lr) k hk
  exact q4.block k hl fun e=>by cases e;exact absurd (ah hcs7 hc) (by decide)
 ·rw [e7,ti]
  exact o4
 ·rcases a4 with a4 | a4
  ·have e2:g7'=g7:=Option.some.inj (show some g7'=some g7 from a4)
   exact h.ap m hm hd (e2 ▸ e)
  ·have e2:g7'=W4.heap.size:=Option.some.inj (show some g7'=some W4.heap.size from a4)
   have:=(af (s4.seen m hm hd) _ e).2.1
   omega
 ·exact (q4.block W.heap.size (ai kp4) fun e=>by cases e;exact absurd (ah hcs7 kp4) (by decide)).trans kp4
 ·exact (q4.block (W.heap.size+1) (ai kr4) fun e=>by have e2:=Option.some.inj e;exact absurd (ah hcs7 (e2 ▸ kr4)) (by decide)).trans kr4
theorem SI.setOff {b:Nat}{cs:Array Value}{t:TypeId}{fz:Nat × Nat}(h:SI w0 hb s0 s1 w making made L md or st)(hb2:w.heap[b]?=some (.cells cs t fz))(ht:t≠9∧t≠236∧t≠125∧t≠239)(hB:w0.heap.size≤b)(j:Nat)(u:Value):SI w0 hb s0 s1 (w.setCell ⟨b,j,none⟩ u) making made L md or st:=by
 have hrow:∀ {size n:Nat} {t':TypeId} {u':Value} {ys:List Value},w.ownsRow w0.heap.size t' size u' n ys→t≠t'→(w.setCell ⟨b,j,none⟩ u).ownsRow w0.heap.size t' size u' n ys:=fun hr hte=>ar hr (fun e=>by
  obtain ⟨_,_,cs2,hc⟩:=af hr b e
  exact hte (ah hb2 hc)) _ _
 refine ⟨h.bel.setCell hB u,h.hbB,h.box.blk (Below.heap_setCell _ _ _ _ fun e=>?_),hrow h.rmd ht.2.1,hrow h.ror ht.1,hrow h.rst ht.1,h.apart,fun m hm hd=>hrow (h.seen m hm hd) ht.2.2.2⟩
 simp at e
 subst e
 exact ht.2.2.1 (ah hb2 h.box)
theorem SB.step {W wr w2:World}{pv md2 or2 st2:Value}{ys:List aw}{ls:List Lk}{g6 c6 g7 c7:Nat}{made2:List Ent}{L2:List SM}(h:SB w0 hb s0 s1 W making pv wr ys ls made L md or st g6 c6 g7 c7)(hK:KS w0.heap.size XN wr w2)(hS:SI w0 hb s0 s1 w2 making made2 L2 md2 or2 st2)(hX:LExt wr.heap.size L L2):SB w0 hb s0 s1 W making pv w2 ys ls made2 L2 md2 or2 st2 g6 c6 g7 c7:=by
 refine ⟨hS,bg h.r6 fun k hk=>?_,bg h.r7 fun k hk=>?_,fun m hm hd e=>?_,(hK.blk _ _ _ _ h.kp (by decide) (by decide) (by decide) fun h=>h).trans h.kp,(hK.blk _ _ _ _ h.kr (by decide) (by decide) (by decide) fun h=>h).trans h.kr,h.kx.to hK⟩
 ·obtain ⟨_,_,cs,hc⟩:=af h.r6 k hk
  exact hK.blk _ _ _ _ hc (by decide) (by decide) (by decide) fun h=>h
 ·obtain ⟨_,_,cs,hc⟩:=af h.r7 k hk
  exact hK.blk _ _ _ _ hc (by decide) (by decide) (by decide) fun h=>h
 ·rcases hX.sn m hm hd with ⟨m0,h0,hd0,e0⟩ | h1
  ·exact h.ap m0 h0 hd0 (by rw [e0];exact e)
  ·have h2:=h1 _ e
   have h3:=(af h.r7 g7 rfl).2.1
   omega
theorem SB.setOff {W wr:World}{pv:Value}{ys:List aw}{ls:List Lk}{g6 c6 g7 c7 b:Nat}{cs:Array Value}{t:TypeId}(h:SB w0 hb s0 s1 W making pv wr ys ls made L md or st g6 c6 g7 c7)(hb2:wr.heap[b]?=some (.cells cs t (0,0)))(ht:t≠9∧t≠236∧t≠125∧t≠239)(hB:w0.heap.size≤W.heap.size)(hb1:W.heap.size+2≤b)(hb6:b≠g6)(j:Nat)(u:Value):SB w0 hb s0 s1 W making pv (wr.setCell ⟨b,j,none⟩ u) ys ls made L md or st g6 c6 g7 c7∧(wr.setCell ⟨b,j,none⟩ u).heap[b]?=some (.cells (cs.setIfInBounds j u) t (0,0)):=by
 refine ⟨⟨h.si.setOff hb2 ht (by omega) j u,ar h.r6 (fun e=>hb6 (Option.some.inj e).symm) _ _,ar h.r7 (fun e=>?_) _ _,h.ap,(Below.heap_setCell _ _ _ _ (show W.heap.size≠b by omega)).trans h.kp,(Below.heap_setCell _ _ _ _ (show W.heap.size+1≠b by omega)).trans h.kr,h.kx.trans (KS.setCell (X:=fun i=>i=b) _ (by omega) (Or.inl rfl) u) fun i hi hy=>by have e2:i=b:=hy;omega⟩,an hb2 u⟩
 obtain ⟨_,_,cs2,hc⟩:=af h.r7 b e
 exact ht.2.2.2 (ah hb2 hc)
theorem uP {S:Spc}{x:Ent}(h:EG S x):(x.kind=2∧bV x=⟨4,x.name,[]⟩∧dU x=⟨false,0,⟨#[]⟩⟩∧eY S x.name=false)∨(x.kind≠2∧bV x=⟨x.code,x.text,[]⟩∧dU x=⟨true,x.code,x.text⟩∧eY S x.name=true):=by
 unfold bV dU eY
 rw [fD,fD]
 rcases h.kind with ⟨hk,_,_,i,hi,_⟩ | ⟨hk,hc,ht,_,h0,h1⟩ | ⟨hk,_,h1⟩
 ·exact .inr ⟨by omega,by rw [if_neg (by omega)],by simp [hk],by rw [hi];rfl⟩
 ·exact .inl ⟨hk,by rw [if_pos hk],by simp [hk,hc,ht],by rw [h0,h1];rfl⟩
 ·exact .inr ⟨by omega,by rw [if_neg (by omega)],by simp [hk],by rw [h1];simp⟩
end
section
variable {w0:World}{S:Spc}{a0 a1:Option Addr}{c0 c1 hb:Nat}{making:List ByteArray}
theorem uQ (C:io w0 S a0 a1)(n:Nat)(HK:i8 w0 S hb (.slice a0 S.n0 c0) (.slice a1 S.n1 c1) n)(made0:List Ent)(L0:List SM)(md0 or0 st0:Value)(w:World)(a:Option Addr)(cap tg:Nat)(hlen:making.length+n=60)(h:SI w0 hb (.slice a0 S.n0 c0) (.slice a1 S.n1 c1) w making made0 L0 md0 or0 st0)(hrel:ep L0 making made0)(hp:PG S making made0)(hroom:eo S making made0 201)(hmt:MT S making)(htg:tg<S.n1)(hsl:SlIns w0 a (S.f1 tg).actN (S.f1 tg).act) :
  Calls Tryz.prog 197 #[.pointer (some ⟨hb,0,none⟩),.agg #[.slice a (S.f1 tg).actN cap]] w fun e w'=>oz w0 hb (.slice a0 S.n0 c0) (.slice a1 S.n1 c1) making L0 w e w' (bD S (aG S n making) tg 201 made0 [] []):=by
 obtain ⟨i6,hi6,hx0,hx1,hx2⟩:=dR rC
 obtain ⟨i7,hi7,hz0,hz1,hz2⟩:=dR uF
 obtain ⟨hok,hc1,hc2⟩:=bR (C.ok.act tg htg)
 obtain ⟨pb,po,rfl,hri⟩:∃ pb po,a=some ⟨pb,po,none⟩∧RowIns w0 pb po (S.f1 tg).actN (S.f1 tg).act:=by
  rcases hsl with h | ⟨b,off,e,hr⟩
  ·omega
  ·exact ⟨b,off,e,hr⟩
 have HRI:=ae hri
 have CC:=ae C
 have HKK:=ae HK
 have hB0:w0.heap.size≤w.heap.size:=h.lt
 have HSZ:=ae (uG C.ok htg)
 obtain ⟨R0,hR0⟩:∃ R0,R0=bD S (aG S n making) tg 201 made0 [] []:=⟨_,rfl⟩
 rw [← hR0]
 have HR0:=ae hR0
 have A2:=ae (((Below.refl w.heap.size w).alloc lr (.cells #[.slice (some ⟨pb,po,none⟩) (S.f1 tg).actN cap] 31)).alloc (by simp) (.cells #[.int .i64 0,.string ⟨#[]⟩,.slice none 0 0] 41))
 have z2:((w.alloc (.cells #[.slice (some ⟨pb,po,none⟩) (S.f1 tg).actN cap] 31)).alloc (.cells #[.int .i64 0,.string ⟨#[]⟩,.slice none 0 0] 41)).heap.size=w.heap.size+2:=by simp
 have kp:Hid (((w.alloc (.cells #[.slice (some ⟨pb,po,none⟩) (S.f1 tg).actN cap] 31)).alloc (.cells #[.int .i64 0,.string ⟨#[]⟩,.slice none 0 0] 41)).heap[w.heap.size]?=some (.cells #[.slice (some ⟨pb,po,none⟩) (S.f1 tg).actN cap] 31 (0,0))) :=
  (((Below.refl (w.heap.size+1) _).alloc (by simp) _).block w.heap.size (by omega)).trans (heap_alloc_new w _)
 have kr:Hid (((w.alloc (.cells #[.slice (some ⟨pb,po,none⟩) (S.f1 tg).actN cap] 31)).alloc (.cells #[.int .i64 0,.string ⟨#[]⟩,.slice none 0 0] 41)).heap[w.heap.size+1]?=some (.cells #[.int .i64 0,.string ⟨#[]⟩,.slice none 0 0] 41 (0,0))):=by
  have h2:=heap_alloc_new (w.alloc (.cells #[.slice (some ⟨pb,po,none⟩) (S.f1 tg).actN cap] 31)) (.cells #[.int .i64 0,.string ⟨#[]⟩,.slice none 0 0] 41)
  rw [show (w.alloc (.cells #[.slice (some ⟨pb,po,none⟩) (S.f1 tg).actN cap] 31)).heap.size=w.heap.size+1 by simp] at h2
  exact h2
 have SI2:=ae (h.below A2.out lr)
 have REL:=ae hrel
 have PGG:=ae hp
 have RMM:=ae hroom
 have HMT:=ae hmt
 clear h C HK hri hsl hR0 hrel hp hroom hmt
 go_enter Tryz.func197,Tryz.ntmps197
 go_upto_region 1 with fail
 generalize (w.alloc (.cells #[.slice (some ⟨pb,po,none⟩) (S.f1 tg).actN cap] 31)).alloc (.cells #[.int .i64 0,.string ⟨#[]⟩,.slice none 0 0] 41)=W2 at A2 z2 kp kr SI2 ⊢
 have hzW2:w.heap.size+2≤W2.heap.size:=by omega
 clear z2
 have A3:=ae ((Below.refl W2.heap.size W2).alloc lr (.cells #[] 75))
 have O6:=ae (gK W2 75 3)
 go_upto_region 2 with fail
 generalize W2.alloc (.cells #[] 75)=W3 at A3 O6 ⊢
 have A4:=ae ((Below.refl W3.heap.size W3).alloc lr (.cells #[] 239))
 have O7:=ae (gK W3 239 3)
 go_wp2_with fail
 generalize W3.alloc (.cells #[] 239)=W4 at A4 O7 ⊢
 have A24:=ae (A3.out.trans (A4.out.mono A3.out.size))
 have AW:=ae (A2.out.trans (A24.out.mono A2.out.size))
 have hw32:W2.heap.size≤W3.heap.size:=A3.out.size
 have SB0:Hid (SB w0 hb (.slice a0 S.n0 c0) (.slice a1 S.n1 c1) w making (.slice (some ⟨pb,po,none⟩) (S.f1 tg).actN cap) W4 [] [] made0 L0 md0 or0 st0 W2.heap.size 0 W3.heap.size 0):=by
  refine ⟨SI2.out.below A24.out lr,aT (own_below O6.out A4.out lr) (by omega),aT O7.out (by omega),fun m hm hd e=>?_,(A24.out.block _ (by omega)).trans kp.out,(A24.out.block _ (by omega)).trans kr.out,KS.of_below AW.out lr hB0⟩
  have:=(af (SI2.out.seen m hm hd) _ e).2.1
  omega
 have SR0:Hid (SR w0 S hb (.slice a0 S.n0 c0) (.slice a1 S.n1 c1) w n making tg (.slice (some ⟨pb,po,none⟩) (S.f1 tg).actN cap) L0 R0 W4 [] [] made0 L0 md0 or0 st0 W2.heap.size 0 W3.heap.size 0) :=
  ⟨SB0.out,REL.out,PGG.out,fa S made0,RMM.out,HR0.out.symm,Nat.zero_le _,LExt.refl _ _⟩
 clear SB0 O6 O7 A3 A4 A2 A24 AW SI2 REL PGG RMM kp kr
 go_loopg [6,7] 202 (fun g v6 v7 wr=>∃ ys ls made L md or st g6 c6 g7 c7,v6=.slice (some ⟨g6,0,none⟩) (List.length (α:=aw) ys) c6∧v7=.slice (some ⟨g7,0,none⟩) (List.length (α:=Lk) ls) c7∧Hid (SR w0 S hb (.slice a0 S.n0 c0) (.slice a1 S.n1 c1) w n making tg (.slice (some ⟨pb,po,none⟩) (S.f1 tg).actN cap) L0 R0 wr ys ls made L md or st g6 c6 g7 c7)∧201 - ys.length≤g)
 case atStart=>exact ⟨[],[],made0,L0,md0,or0,st0,_,_,_,_,rfl,rfl,SR0,by simp⟩
 case round =>
  clear SR0
  obtain ⟨ys,ls,made,L,md,or,st,g6,c6,g7,c7,rfl,rfl,HI,hg⟩:=hrel
  have k0:wr.cell? ⟨w.heap.size,0,none⟩=some (.slice (some ⟨pb,po,none⟩) (S.f1 tg).actN cap):=by simp [World.cell?,HI.out.sb.kp]
  have hkl:=ai HI.out.sb.kp
  have hy:=HI.out.le
  have hls:ls.length=ys.length:=HI.out.rg.len
  obtain ⟨T,hT⟩:∃ T,T=bk S tg ys:=⟨_,rfl⟩
  have HT:=ae hT
  have HLS:=ae hls
  clear hT hls
  go_wp2_with fail
  refine (oc pb po (S.f1 tg).actN cap g6 0 ys.length c6 (S.f1 tg).act (yL ys) wr (by omega) (HRI.out.below HI.out.sb.si.bel lr) (pN HI.out.sb.r6) HSZ.out).mono ?_
  rintro e w1 ⟨he,hB⟩
  rw [tj CC.out.ok htg HI.out.rg.good HI.out.le,← HT.out] at he
  subst he
  have SB1:=ae (HI.out.sb.below hB lr)
  have TOK:=ae (ib CC.out.ok htg HI.out.rg.good)
  rw [← HT.out] at TOK
  clear hB k0
  obtain ⟨over,code,text,ask,name,steps⟩:=T
  simp only [Turn.v]
  have A5:=ae ((Below.refl w1.heap.size w1).alloc lr (.cells #[.bool over,.int .i64 code,.string text,.bool ask,.string name,.int .i64 steps] 70))
  have kt:Hid (TBx (w1.alloc (.cells #[.bool over,.int .i64 code,.string text,.bool ask,.string name,.int .i64 steps] 70)) w1.heap.size over code text ask name steps):=heap_alloc_new _ _
  obtain ⟨t0,t1,t2,t3,t4⟩:=kt.out.cells
  have SB5:=ae (SB1.out.below A5.out lr)
  cases over with
  | true =>
   have HR1:Hid (R0=.inl (made,(⟨true,code,text,ask,name,steps⟩,ls))):=by
    show _=_
    rw [← HI.out.run,show 201 - ys.length=(200 - ys.length)+1 by omega,bD,← HT.out,if_pos rfl]
   obtain ⟨rl,r0,r1,r2,rf⟩:=aE SB5.out.kr
   have rf0:=rf 0
   have rf1:=rf 1
   have rf2:=rf 2
   clear rf
   go_wp2_with fail
   generalize w1.alloc (.cells #[.bool true,.int .i64 code,.string text,.bool ask,.string name,.int .i64 steps] 70)=W5 at A5 kt SB5 r0 r1 r2 rf0 rf1 rf2 rl t0 t1 t2 t3 t4 ⊢
   refine bodyPost_ret (v:=.tuple #[.agg #[.int .i64 code,.string text,.slice none 0 0],.slice (some ⟨g7,0,none⟩) ls.length c7]) (by simp [results,Tryz.results197,go_sem,r0,r1,r2]) rfl ?_
   have hBr:w0.heap.size≤w.heap.size+1:=by omega
   have x0:=SB5.out.si.setOff SB5.out.kr ⟨by decide,by decide,by decide,by decide⟩ hBr 0 (.int .i64 code)
   have y0:=an SB5.out.kr (j:=0) (.int .i64 code)
   have x1:=x0.setOff y0 ⟨by decide,by decide,by decide,by decide⟩ hBr 1 (.string text)
   have y1:=an y0 (j:=1) (.string text)
   have x2:=x1.setOff y1 ⟨by decide,by decide,by decide,by decide⟩ hBr 2 (.slice none 0 0)
   have hg7r:g7≠w.heap.size+1:=fun e=>by
    obtain ⟨_,_,cs,hc⟩:=af SB5.out.r7 g7 rfl
    exact absurd (ah (e ▸ hc) SB5.out.kr) (by decide)
   rw [HR1.out]
   refine ⟨L,md,or,st,g7,c7,rfl,x2,HI.out.rel,ar (ar (ar SB5.out.r7 (fun e=>hg7r (Option.some.inj e)) _ _) (fun e=>hg7r (Option.some.inj e)) _ _) (fun e=>hg7r (Option.some.inj e)) _ _,SB5.out.ap,HI.out.ext,?_⟩
   refine ((SB5.out.kx.trans (KS.setCell (X:=fun i=>i=w.heap.size+1) W5 hBr (Or.inl rfl) (.int .i64 code)) ?_).trans (KS.setCell (X:=fun i=>i=w.heap.size+1) _ hBr (Or.inl rfl) (.string text)) ?_).trans (KS.setCell (X:=fun i=>i=w.heap.size+1) _ hBr (Or.inl rfl) (.slice none 0 0)) ?_
   all_goals
    intro i hi h
    have e2:i=w.heap.size+1:=h
    omega
  | false =>
   have hyl:ys.length<200:=by
    rcases TOK.out with h | h
    ·exact absurd h.1 (by simp)
    ·exact h.2.1
   have HN:Hid (au name=true):=by
    rcases TOK.out with h | h
    ·exact absurd h.1 (by simp)
    ·exact h.2.2
   cases ask with
   | false =>
    have NXF:=HI.out.run
    rw [show 201 - ys.length=(200 - ys.length)+1 by omega,bD,← HT.out,if_neg (by simp),if_pos rfl] at NXF
    obtain ⟨hbv,hhbv⟩:∃ hbv,hbv=eY S name:=⟨_,rfl⟩
    have HHB:=ae hhbv
    simp only at NXF
    rw [← hhbv] at NXF
    have NX:=ae NXF
    clear NXF hhbv
    go_wp2_with fail
    clear t0 t1 t2 t3 t4
    generalize w1.alloc (.cells #[.bool false,.int .i64 code,.string text,.bool false,.string name,.int .i64 steps] 70)=W5 at A5 kt SB5 ⊢
    obtain ⟨hbl,b0,b1,-⟩:=SB5.out.si.box.facts
    refine (jN CC.out W5 name SB5.out.si.bel hbl b0 b1).mono ?_
    rintro e w2 ⟨he,hB⟩
    rw [← HHB.out] at he
    subst he
    have SB2:=ae (SB5.out.below hB lr)
    have kt2:Hid (TBx w2 w1.heap.size false code text false name steps):=(hB.block _ (ai kt.out)).trans kt.out
    clear hB b0 b1 hbl
    have A6:=ae ((Below.refl w2.heap.size w2).alloc lr (.cells #[.bool hbv,.int .i64 0,.string ⟨#[]⟩] 75))
    have RA:=ae (own_below SB2.out.r6 A6.out lr)
    have hWb:w.heap.size≤w2.heap.size:=SB2.out.kx.below.size
    go_upto_region 9 with (first
     | (at_builtin;refine aC _ rfl (.tmp 32) (.tmp 35) 68 rfl w.heap.size 75 i6 (.agg #[.bool false,.int .i64 0,.string ⟨#[]⟩]) 3 32 Tryz.underlying68 hi6 hx0 hx1 hx2 rfl (by decide) (.slice (some ⟨g6,0,none⟩) ys.length c6) ys.length (d9 ys) (by simp [Act.eval]) RA.out ⟨w2.heap.size,0,none⟩ 1 1 [.bool hbv,.int .i64 0,.string ⟨#[]⟩] (by simp [Act.eval]) rfl (du w2 _ _ _ _) (by simp [Value.oneCell']) (by unfold maxLen;omega) (by omega) (by simp<;>omega) ?_;intro v3 w3 hown3 hgrow3 hat3;have O3:=ae hown3;have G3:=ae hgrow3;clear hown3 hgrow3 hat3)
     | fail)
    have hne6:Hid (∀ (k:Nat) (cs:Array Value) (t:TypeId) (fz:Nat × Nat),(w2.alloc (.cells #[.bool hbv,.int .i64 0,.string ⟨#[]⟩] 75)).heap[k]?=some (Obj.cells cs t fz)→t≠75→w3.heap[k]?=(w2.alloc (.cells #[.bool hbv,.int .i64 0,.string ⟨#[]⟩] 75)).heap[k]?):=fun k cs t fz hk ht=>G3.out.block k (ai hk) fun e=>by
     obtain ⟨_,_,cs2,hc2⟩:=af RA.out k e.symm
     exact ht (ah hk hc2)
    have kt3:Hid (TBx w3 w1.heap.size false code text false name steps):=by
     have h0:=(A6.out.block _ (ai kt2.out)).trans kt2.out
     exact (hne6.out _ _ _ _ h0 (by decide)).trans h0
    have r73:Hid (w3.ownsRow w.heap.size 239 3 (.slice (some ⟨g7,0,none⟩) ls.length c7) ls.length (da ls)):=bg (own_below SB2.out.r7 A6.out lr) fun k hk=>by
     obtain ⟨_,_,cs,hc⟩:=af (own_below SB2.out.r7 A6.out lr) k hk
     exact hne6.out _ _ _ _ hc (by decide)
    obtain ⟨-,-,-,-,n4⟩:=kt3.out.cells
    have htl:=ai kt3.out
    have A7:=ae ((Below.refl w3.heap.size w3).alloc lr (.cells #[.string name,.bool false,.bool hbv] 239))
    have RS:=ae (own_below r73.out A7.out lr)
    have hW3:w.heap.size≤w3.heap.size:=Nat.le_trans (Nat.le_trans hWb (by simp<;>omega)) G3.out.size
    have hlsl:=HLS.out
    obtain ⟨lsn,hlsn⟩:∃ lsn,lsn=ls.length:=⟨_,rfl⟩
    have hlsn2:lsn≤200:=by omega
    have HLN:=ae hlsn
    rw [← hlsn] at RS ⊢
    clear hlsl hlsn
    go_wp2_with (first
     | (at_builtin;refine aC _ rfl (.tmp 37) (.tmp 42) 234 rfl w.heap.size 239 i7 (.agg #[.string ⟨#[]⟩,.bool false,.bool false]) 3 24 Tryz.underlying234 hi7 hz0 hz1 hz2 rfl (by decide) (.slice (some ⟨g7,0,none⟩) lsn c7) lsn (da ls) (by simp [Act.eval]) RS.out ⟨w3.heap.size,0,none⟩ 1 1 [.string name,.bool false,.bool hbv] (by simp [Act.eval]) rfl (du w3 _ _ _ _) (by simp [Value.oneCell']) (by unfold maxLen;omega) (by omega) (by simp<;>omega) ?_;intro v4 w4 hown4 hgrow4 hat4;have O4:=ae hown4;have G4:=ae hgrow4;have AT4:=ae hat4;clear hown4 hgrow4 hat4)
     | fail)
    obtain ⟨g6n,c6n,g7n,c7n,e6,e7,hSB⟩:=SB2.out.more (r:=⟨hbv,0,⟨#[]⟩⟩) (l:=⟨name,false,hbv⟩) hB0 A6.out O3.out G3.out A7.out (by rw [← HLN.out];exact O4.out) G4.out AT4.out
    have hlen1:(ys++[(⟨hbv,0,⟨#[]⟩⟩:aw)]).length=ys.length+1:=by simp
    have SRN:Hid (SR w0 S hb (.slice a0 S.n0 c0) (.slice a1 S.n1 c1) w n making tg (.slice (some ⟨pb,po,none⟩) (S.f1 tg).actN cap) L0 R0 w4 (ys++[⟨hbv,0,⟨#[]⟩⟩]) (ls++[⟨name,false,hbv⟩]) made L md or st g6n c6n g7n c7n) :=
     ⟨hSB,HI.out.rel,HI.out.pg,(HI.out.rg.add (by rw [HHB.out];exact gI _ _) HN.out (fun h=>by cases h)),(by rw [hlen1,show 201 - (ys.length+1)=200 - ys.length by omega];exact (by have:=HI.out.room;unfold eo at this ⊢;omega)),(by rw [hlen1,show 201 - (ys.length+1)=200 - ys.length by omega];exact NX.out),(by rw [hlen1];omega),HI.out.ext⟩
    obtain ⟨g,rfl⟩:∃ g,gk=g+1:=⟨gk - 1,by omega⟩
    go_roundg g
    case measure=>omega
    case rel=>exact ⟨_,_,_,_,_,_,_,_,_,_,_,e6,e7,SRN,by rw [hlen1];omega⟩
   | true =>
    have NXF:=HI.out.run
    rw [show 201 - ys.length=(200 - ys.length)+1 by omega,bD,← HT.out,if_neg (by simp),if_neg (by simp)] at NXF
    simp only at NXF
    go_wp2_with fail
    clear t0 t1 t2 t3 t4
    generalize w1.alloc (.cells #[.bool false,.int .i64 code,.string text,.bool true,.string name,.int .i64 steps] 70)=W5 at A5 kt SB5 ⊢
    refine (HKK.out making made L md or st W5 name hlen SB5.out.si HI.out.rel HI.out.pg (by have:=HI.out.room;unfold eo at this ⊢;omega) HMT.out HN.out).mono ?_
    intro e w2 hpost
    rcases hr:aG S n making made name with ⟨made2,x⟩ | c | d
    ·rw [hr] at hpost NXF
     dsimp only at NXF
     obtain ⟨L2,md2,or2,st2,rfl,hSI,hRel,hLX,hK⟩:=hpost
     obtain ⟨hp2,⟨more,hmore⟩,hx,hxn⟩:=ci CC.out.ok n making made name made2 x HI.out.pg HN.out hr
     have hgrow:=eZ S n making made name made2 x hr
     have hmem:∀ y∈made,y∈made2:=fun y hy=>by rw [hmore];exact List.mem_append_left _ hy
     have SBX:=ae (SB5.out.step hK hSI hLX)
     have RL2:=ae hRel
     have PG2:=ae hp2
     have RG2:Hid (RG S made2 (ys++[dU x]) (ls++[⟨name,true,false⟩])):=(HI.out.rg.mono hmem).add (fT (hp2.ents x hx)) HN.out (fun _=>⟨x,hx,hxn⟩)
     have RM2:Hid (eo S making made2 (200 - ys.length)):=by have:=HI.out.room;unfold eo at this ⊢;unfold dZ at hgrow;show _≤_;omega
     have EX2:=ae (HI.out.ext.trans hLX SB5.out.kx.below.size)
     have kt2x:Hid (TBx w2 w1.heap.size false code text true name steps):=(hK.blk _ _ _ _ kt.out (by decide) (by decide) (by decide) fun h=>h).trans kt.out
     have NX:=ae NXF
     have HKD:=ae (uP (hp2.ents x hx))
     have hz25:W5.heap.size≤w2.heap.size:=hK.below.size
     have hg65:g6<W5.heap.size:=(af SB5.out.r6 g6 rfl).2.1
     have hw25:w.heap.size+2≤W5.heap.size:=ai SB5.out.kr
     rw [hxn] at HKD
     obtain ⟨rc,rt,hrc⟩:∃ rc rt,bV x=⟨rc,rt,[]⟩:=by
      rcases HKD.out with h | h
      ·exact ⟨_,_,h.2.1⟩
      ·exact ⟨_,_,h.2.1⟩
     have HRC:=ae hrc
     simp only [hrc]
     clear hSI hRel hLX hK hp2 hmore hx hxn hgrow hmem hr NXF hrc
     have A6:=ae ((Below.refl w2.heap.size w2).alloc lr (.cells #[.int .i64 rc,.string rt,.slice none 0 0] 41))
     have kb6:Hid ((w2.alloc (.cells #[.int .i64 rc,.string rt,.slice none 0 0] 41)).heap[w2.heap.size]?=some (.cells #[.int .i64 rc,.string rt,.slice none 0 0] 41 (0,0))):=heap_alloc_new _ _
     obtain ⟨hbl,-,-,-,-,-,-,-,-,b8,-⟩:=SBX.out.si.box.facts
     have d8:=(A6.out.cell (p:=⟨hb,8,none⟩) hbl).trans b8
     obtain ⟨rl,r0,r1,-,-⟩:=aE kb6.out
     go_upto_region 13 with fail
     clear d8 b8
     generalize w2.alloc (.cells #[.int .i64 rc,.string rt,.slice none 0 0] 41)=W6 at A6 kb6 r0 r1 rl ⊢
     have A7:=ae ((Below.refl W6.heap.size W6).alloc lr (.cells #[.bool true,.int .i64 rc,.string rt] 75))
     have ky:Hid ((W6.alloc (.cells #[.bool true,.int .i64 rc,.string rt] 75)).heap[W6.heap.size]?=some (.cells #[.bool true,.int .i64 rc,.string rt] 75 (0,0))):=heap_alloc_new _ _
     go_upto_region 14 with fail
     generalize W6.alloc (.cells #[.bool true,.int .i64 rc,.string rt] 75)=W7 at A7 ky ⊢
     have A27:=ae (A6.out.trans (A7.out.mono A6.out.size))
     have SB7:=ae (SBX.out.below A27.out lr)
     have kt7:Hid (TBx W7 w1.heap.size false code text true name steps):=(A27.out.block _ (ai kt2x.out)).trans kt2x.out
     have r7:=(A7.out.cell (p:=⟨w2.heap.size,0,none⟩) rl).trans r0
     have hrl7:w2.heap.size<W7.heap.size:=ll rl A7.out.size
     obtain ⟨-,-,-,-,tn⟩:=kt7.out.cells
     have htl7:=ai kt7.out
     obtain ⟨yb,hyb⟩:∃ yb,yb=W6.heap.size:=⟨_,rfl⟩
     rw [← hyb] at ky ⊢
     have hyb1:w.heap.size+2≤yb:=by have:=A6.out.size;omega
     have hyb6:yb≠g6:=by have:=A6.out.size;omega
     clear hyb SBX kt2x A7 A6 kb6 r0 r1
     obtain ⟨hbl7,b0,b1,-⟩:=SB7.out.si.box.facts
     rcases HKD.out with ⟨hk2,hre,hrp,hhs⟩ | ⟨hk2,hre,hrp,hhs⟩
     ·have e4:rc=4:=by have:=HRC.out;rw [hre] at this;cases this;rfl
      subst e4
      rw [hrp] at RG2 NX
      have HHS:=ae hhs
      clear hre hrp hhs hk2 HKD HRC
      go_wp2_with fail
      refine (jN CC.out W7 name SB7.out.si.bel hbl7 b0 b1).mono ?_
      rintro e w3 ⟨he,hB⟩
      rw [HHS.out] at he
      subst he
      have SB8:=ae (SB7.out.below hB lr)
      have kt8:Hid (TBx w3 w1.heap.size false code text true name steps):=(hB.block _ htl7).trans kt7.out
      have ky8:=(hB.block _ (ai ky.out)).trans ky.out
      obtain ⟨yl,y0,y1,y2,yf⟩:=aE ky8
      have yf0:=yf 0
      have yf1:=yf 1
      have yf2:=yf 2
      have x0:=SB8.out.setOff ky8 ⟨by decide,by decide,by decide,by decide⟩ hB0 hyb1 hyb6 0 (.bool false)
      have x1:=x0.1.setOff x0.2 ⟨by decide,by decide,by decide,by decide⟩ hB0 hyb1 hyb6 1 (.int .i64 0)
      have x2:=x1.1.setOff x1.2 ⟨by decide,by decide,by decide,by decide⟩ hB0 hyb1 hyb6 2 (.string ⟨#[]⟩)
      have SB2:=ae x2.1
      have KY:=ae x2.2
      have hty:w1.heap.size≠yb:=fun e=>absurd (ah (show w3.heap[w1.heap.size]?=_ from kt8.out) (e ▸ ky8)) (by decide)
      have kt2:Hid (TBx (((w3.setCell ⟨yb,0,none⟩ (.bool false)).setCell ⟨yb,1,none⟩ (.int .i64 0)).setCell ⟨yb,2,none⟩ (.string ⟨#[]⟩)) w1.heap.size false code text true name steps):=(Below.heap_setCell _ _ _ _ hty).trans ((Below.heap_setCell _ _ _ _ hty).trans ((Below.heap_setCell _ _ _ _ hty).trans kt8.out))
      clear x0 x1 x2 hB tn b0 b1 hbl7 r7 hrl7 htl7 rl ky8
      go_upto_region 16 with fail
      clear y0 y1 y2 yf0 yf1 yf2 yl
      generalize ((w3.setCell ⟨yb,0,none⟩ (.bool false)).setCell ⟨yb,1,none⟩ (.int .i64 0)).setCell ⟨yb,2,none⟩ (.string ⟨#[]⟩)=W8 at SB2 KY kt2 ⊢
      obtain ⟨yl,y0,y1,y2,-⟩:=aE KY.out
      have A6:=ae ((Below.refl W8.heap.size W8).alloc lr (.cells #[.bool false,.int .i64 0,.string ⟨#[]⟩] 75))
      have RA:=ae (own_below SB2.out.r6 A6.out lr)
      have hWb:w.heap.size≤W8.heap.size:=SB2.out.kx.below.size
      go_upto_region 17 with (first
       | (at_builtin;refine aC _ rfl (.tmp 73) (.tmp 75) 68 rfl w.heap.size 75 i6 (.agg #[.bool false,.int .i64 0,.string ⟨#[]⟩]) 3 32 Tryz.underlying68 hi6 hx0 hx1 hx2 rfl (by decide) (.slice (some ⟨g6,0,none⟩) ys.length c6) ys.length (d9 ys) (by simp [Act.eval]) RA.out ⟨W8.heap.size,0,none⟩ 1 1 [.bool false,.int .i64 0,.string ⟨#[]⟩] (by simp [Act.eval]) rfl (du W8 _ _ _ _) (by simp [Value.oneCell']) (by unfold maxLen;omega) (by omega) (by simp<;>omega) ?_;intro v3 w3 hown3 hgrow3 hat3;have O3:=ae hown3;have G3:=ae hgrow3;clear hown3 hgrow3 hat3)
       | fail)
      have hne6:Hid (∀ (k:Nat) (cs:Array Value) (t:TypeId) (fz:Nat × Nat),(W8.alloc (.cells #[.bool false,.int .i64 0,.string ⟨#[]⟩] 75)).heap[k]?=some (Obj.cells cs t fz)→t≠75→w3.heap[k]?=(W8.alloc (.cells #[.bool false,.int .i64 0,.string ⟨#[]⟩] 75)).heap[k]?):=fun k cs t fz hk ht=>G3.out.block k (ai hk) fun e=>by
       obtain ⟨_,_,cs2,hc2⟩:=af RA.out k e.symm
       exact ht (ah hk hc2)
      have kt3:Hid (TBx w3 w1.heap.size false code text true name steps):=by
       have h0:=(A6.out.block _ (ai kt2.out)).trans kt2.out
       exact (hne6.out _ _ _ _ h0 (by decide)).trans h0
      have r73:Hid (w3.ownsRow w.heap.size 239 3 (.slice (some ⟨g7,0,none⟩) ls.length c7) ls.length (da ls)):=bg (own_below SB2.out.r7 A6.out lr) fun k hk=>by
       obtain ⟨_,_,cs,hc⟩:=af (own_below SB2.out.r7 A6.out lr) k hk
       exact hne6.out _ _ _ _ hc (by decide)
      obtain ⟨-,-,-,-,n4⟩:=kt3.out.cells
      have htl:=ai kt3.out
      have A7:=ae ((Below.refl w3.heap.size w3).alloc lr (.cells #[.string name,.bool true,.bool false] 239))
      have RS:=ae (own_below r73.out A7.out lr)
      have hW3:w.heap.size≤w3.heap.size:=Nat.le_trans (Nat.le_trans hWb (by simp<;>omega)) G3.out.size
      have hlsl:=HLS.out
      obtain ⟨lsn,hlsn⟩:∃ lsn,lsn=ls.length:=⟨_,rfl⟩
      have hlsn2:lsn≤200:=by omega
      have HLN:=ae hlsn
      rw [← hlsn] at RS ⊢
      clear hlsl hlsn
      go_wp2_with (first
       | (at_builtin;refine aC _ rfl (.tmp 77) (.tmp 81) 234 rfl w.heap.size 239 i7 (.agg #[.string ⟨#[]⟩,.bool false,.bool false]) 3 24 Tryz.underlying234 hi7 hz0 hz1 hz2 rfl (by decide) (.slice (some ⟨g7,0,none⟩) lsn c7) lsn (da ls) (by simp [Act.eval]) RS.out ⟨w3.heap.size,0,none⟩ 1 1 [.string name,.bool true,.bool false] (by simp [Act.eval]) rfl (du w3 _ _ _ _) (by simp [Value.oneCell']) (by unfold maxLen;omega) (by omega) (by simp<;>omega) ?_;intro v4 w4 hown4 hgrow4 hat4;have O4:=ae hown4;have G4:=ae hgrow4;have AT4:=ae hat4;clear hown4 hgrow4 hat4)
       | fail)
      obtain ⟨g6n,c6n,g7n,c7n,e6,e7,hSB⟩:=SB2.out.more (r:=⟨false,0,⟨#[]⟩⟩) (l:=⟨name,true,false⟩) hB0 A6.out O3.out G3.out A7.out (by rw [← HLN.out];exact O4.out) G4.out AT4.out
      have hlen1:(ys++[(⟨false,0,⟨#[]⟩⟩:aw)]).length=ys.length+1:=by simp
      have SRN:Hid (SR w0 S hb (.slice a0 S.n0 c0) (.slice a1 S.n1 c1) w n making tg (.slice (some ⟨pb,po,none⟩) (S.f1 tg).actN cap) L0 R0 w4 (ys++[⟨false,0,⟨#[]⟩⟩]) (ls++[⟨name,true,false⟩]) made2 L2 md2 or2 st2 g6n c6n g7n c7n) :=
       ⟨hSB,RL2.out,PG2.out,RG2.out,(by rw [hlen1,show 201 - (ys.length+1)=200 - ys.length by omega];exact RM2.out),(by rw [hlen1,show 201 - (ys.length+1)=200 - ys.length by omega];exact NX.out),(by rw [hlen1];omega),EX2.out⟩
      obtain ⟨g,rfl⟩:∃ g,gk=g+1:=⟨gk - 1,by omega⟩
      go_roundg g
      case measure=>omega
      case rel=>exact ⟨_,_,_,_,_,_,_,_,_,_,_,e6,e7,SRN,by rw [hlen1];omega⟩
     ·have e1:rc=x.code∧rt=x.text:=by have:=HRC.out;rw [hre] at this;cases this;exact ⟨rfl,rfl⟩
      rw [hrp,← e1.1,← e1.2] at RG2 NX
      have HHS:=ae hhs
      clear hre hrp hhs hk2 HKD HRC e1
      by_cases h4:rc=4
      ·subst h4
       go_wp2_with fail
       refine (jN CC.out W7 name SB7.out.si.bel hbl7 b0 b1).mono ?_
       rintro e w8 ⟨he,hB⟩
       rw [HHS.out] at he
       subst he
       have SB2:=ae (SB7.out.below hB lr)
       have kt2:Hid (TBx w8 w1.heap.size false code text true name steps):=(hB.block _ htl7).trans kt7.out
       obtain ⟨yl,y0,y1,y2,-⟩:=aE ((hB.block _ (ai ky.out)).trans ky.out)
       clear hB tn b0 b1 hbl7 r7 hrl7 htl7 rl
       go_upto_region 16 with fail
       have A6:=ae ((Below.refl w8.heap.size w8).alloc lr (.cells #[.bool true,.int .i64 4,.string rt] 75))
       have RA:=ae (own_below SB2.out.r6 A6.out lr)
       have hWb:w.heap.size≤w8.heap.size:=SB2.out.kx.below.size
       go_upto_region 17 with (first
        | (at_builtin;refine aC _ rfl (.tmp 73) (.tmp 75) 68 rfl w.heap.size 75 i6 (.agg #[.bool false,.int .i64 0,.string ⟨#[]⟩]) 3 32 Tryz.underlying68 hi6 hx0 hx1 hx2 rfl (by decide) (.slice (some ⟨g6,0,none⟩) ys.length c6) ys.length (d9 ys) (by simp [Act.eval]) RA.out ⟨w8.heap.size,0,none⟩ 1 1 [.bool true,.int .i64 4,.string rt] (by simp [Act.eval]) rfl (du w8 _ _ _ _) (by simp [Value.oneCell']) (by unfold maxLen;omega) (by omega) (by simp<;>omega) ?_;intro v3 w3 hown3 hgrow3 hat3;have O3:=ae hown3;have G3:=ae hgrow3;clear hown3 hgrow3 hat3)
        | fail)
       have hne6:Hid (∀ (k:Nat) (cs:Array Value) (t:TypeId) (fz:Nat × Nat),(w8.alloc (.cells #[.bool true,.int .i64 4,.string rt] 75)).heap[k]?=some (Obj.cells cs t fz)→t≠75→w3.heap[k]?=(w8.alloc (.cells #[.bool true,.int .i64 4,.string rt] 75)).heap[k]?):=fun k cs t fz hk ht=>G3.out.block k (ai hk) fun e=>by
        obtain ⟨_,_,cs2,hc2⟩:=af RA.out k e.symm
        exact ht (ah hk hc2)
       have kt3:Hid (TBx w3 w1.heap.size false code text true name steps):=by
        have h0:=(A6.out.block _ (ai kt2.out)).trans kt2.out
        exact (hne6.out _ _ _ _ h0 (by decide)).trans h0
       have r73:Hid (w3.ownsRow w.heap.size 239 3 (.slice (some ⟨g7,0,none⟩) ls.length c7) ls.length (da ls)):=bg (own_below SB2.out.r7 A6.out lr) fun k hk=>by
        obtain ⟨_,_,cs,hc⟩:=af (own_below SB2.out.r7 A6.out lr) k hk
        exact hne6.out _ _ _ _ hc (by decide)
       obtain ⟨-,-,-,-,n4⟩:=kt3.out.cells
       have htl:=ai kt3.out
       have A7:=ae ((Below.refl w3.heap.size w3).alloc lr (.cells #[.string name,.bool true,.bool false] 239))
       have RS:=ae (own_below r73.out A7.out lr)
       have hW3:w.heap.size≤w3.heap.size:=Nat.le_trans (Nat.le_trans hWb (by simp<;>omega)) G3.out.size
       have hlsl:=HLS.out
       obtain ⟨lsn,hlsn⟩:∃ lsn,lsn=ls.length:=⟨_,rfl⟩
       have hlsn2:lsn≤200:=by omega
       have HLN:=ae hlsn
       rw [← hlsn] at RS ⊢
       clear hlsl hlsn
       go_wp2_with (first
        | (at_builtin;refine aC _ rfl (.tmp 77) (.tmp 81) 234 rfl w.heap.size 239 i7 (.agg #[.string ⟨#[]⟩,.bool false,.bool false]) 3 24 Tryz.underlying234 hi7 hz0 hz1 hz2 rfl (by decide) (.slice (some ⟨g7,0,none⟩) lsn c7) lsn (da ls) (by simp [Act.eval]) RS.out ⟨w3.heap.size,0,none⟩ 1 1 [.string name,.bool true,.bool false] (by simp [Act.eval]) rfl (du w3 _ _ _ _) (by simp [Value.oneCell']) (by unfold maxLen;omega) (by omega) (by simp<;>omega) ?_;intro v4 w4 hown4 hgrow4 hat4;have O4:=ae hown4;have G4:=ae hgrow4;have AT4:=ae hat4;clear hown4 hgrow4 hat4)
        | fail)
       obtain ⟨g6n,c6n,g7n,c7n,e6,e7,hSB⟩:=SB2.out.more (r:=⟨true,4,rt⟩) (l:=⟨name,true,false⟩) hB0 A6.out O3.out G3.out A7.out (by rw [← HLN.out];exact O4.out) G4.out AT4.out
       have hlen1:(ys++[(⟨true,4,rt⟩:aw)]).length=ys.length+1:=by simp
       have SRN:Hid (SR w0 S hb (.slice a0 S.n0 c0) (.slice a1 S.n1 c1) w n making tg (.slice (some ⟨pb,po,none⟩) (S.f1 tg).actN cap) L0 R0 w4 (ys++[⟨true,4,rt⟩]) (ls++[⟨name,true,false⟩]) made2 L2 md2 or2 st2 g6n c6n g7n c7n) :=
        ⟨hSB,RL2.out,PG2.out,RG2.out,(by rw [hlen1,show 201 - (ys.length+1)=200 - ys.length by omega];exact RM2.out),(by rw [hlen1,show 201 - (ys.length+1)=200 - ys.length by omega];exact NX.out),(by rw [hlen1];omega),EX2.out⟩
       obtain ⟨g,rfl⟩:∃ g,gk=g+1:=⟨gk - 1,by omega⟩
       go_roundg g
       case measure=>omega
       case rel=>exact ⟨_,_,_,_,_,_,_,_,_,_,_,e6,e7,SRN,by rw [hlen1];omega⟩
      ·have h4b:(rc == 4)=false:=by simpa using h4
       have SB2:=SB7
       have kt2:=kt7
       obtain ⟨yl,y0,y1,y2,-⟩:=aE ky.out
       go_upto_region 16 with fail
       clear tn b0 b1 hbl7 r7 hrl7 htl7 rl
       have A6:=ae ((Below.refl W7.heap.size W7).alloc lr (.cells #[.bool true,.int .i64 rc,.string rt] 75))
       have RA:=ae (own_below SB2.out.r6 A6.out lr)
       have hWb:w.heap.size≤W7.heap.size:=SB2.out.kx.below.size
       go_upto_region 17 with (first
        | (at_builtin;refine aC _ rfl (.tmp 73) (.tmp 75) 68 rfl w.heap.size 75 i6 (.agg #[.bool false,.int .i64 0,.string ⟨#[]⟩]) 3 32 Tryz.underlying68 hi6 hx0 hx1 hx2 rfl (by decide) (.slice (some ⟨g6,0,none⟩) ys.length c6) ys.length (d9 ys) (by simp [Act.eval]) RA.out ⟨W7.heap.size,0,none⟩ 1 1 [.bool true,.int .i64 rc,.string rt] (by simp [Act.eval]) rfl (du W7 _ _ _ _) (by simp [Value.oneCell']) (by unfold maxLen;omega) (by omega) (by simp<;>omega) ?_;intro v3 w3 hown3 hgrow3 hat3;have O3:=ae hown3;have G3:=ae hgrow3;clear hown3 hgrow3 hat3)
        | fail)
       have hne6:Hid (∀ (k:Nat) (cs:Array Value) (t:TypeId) (fz:Nat × Nat),(W7.alloc (.cells #[.bool true,.int .i64 rc,.string rt] 75)).heap[k]?=some (Obj.cells cs t fz)→t≠75→w3.heap[k]?=(W7.alloc (.cells #[.bool true,.int .i64 rc,.string rt] 75)).heap[k]?):=fun k cs t fz hk ht=>G3.out.block k (ai hk) fun e=>by
        obtain ⟨_,_,cs2,hc2⟩:=af RA.out k e.symm
        exact ht (ah hk hc2)
       have kt3:Hid (TBx w3 w1.heap.size false code text true name steps):=by
        have h0:=(A6.out.block _ (ai kt2.out)).trans kt2.out
        exact (hne6.out _ _ _ _ h0 (by decide)).trans h0
       have r73:Hid (w3.ownsRow w.heap.size 239 3 (.slice (some ⟨g7,0,none⟩) ls.length c7) ls.length (da ls)):=bg (own_below SB2.out.r7 A6.out lr) fun k hk=>by
        obtain ⟨_,_,cs,hc⟩:=af (own_below SB2.out.r7 A6.out lr) k hk
        exact hne6.out _ _ _ _ hc (by decide)
       obtain ⟨-,-,-,-,n4⟩:=kt3.out.cells
       have htl:=ai kt3.out
       have A7:=ae ((Below.refl w3.heap.size w3).alloc lr (.cells #[.string name,.bool true,.bool false] 239))
       have RS:=ae (own_below r73.out A7.out lr)
       have hW3:w.heap.size≤w3.heap.size:=Nat.le_trans (Nat.le_trans hWb (by simp<;>omega)) G3.out.size
       have hlsl:=HLS.out
       obtain ⟨lsn,hlsn⟩:∃ lsn,lsn=ls.length:=⟨_,rfl⟩
       have hlsn2:lsn≤200:=by omega
       have HLN:=ae hlsn
       rw [← hlsn] at RS ⊢
       clear hlsl hlsn
       go_wp2_with (first
        | (at_builtin;refine aC _ rfl (.tmp 77) (.tmp 81) 234 rfl w.heap.size 239 i7 (.agg #[.string ⟨#[]⟩,.bool false,.bool false]) 3 24 Tryz.underlying234 hi7 hz0 hz1 hz2 rfl (by decide) (.slice (some ⟨g7,0,none⟩) lsn c7) lsn (da ls) (by simp [Act.eval]) RS.out ⟨w3.heap.size,0,none⟩ 1 1 [.string name,.bool true,.bool false] (by simp [Act.eval]) rfl (du w3 _ _ _ _) (by simp [Value.oneCell']) (by unfold maxLen;omega) (by omega) (by simp<;>omega) ?_;intro v4 w4 hown4 hgrow4 hat4;have O4:=ae hown4;have G4:=ae hgrow4;have AT4:=ae hat4;clear hown4 hgrow4 hat4)
        | fail)
       obtain ⟨g6n,c6n,g7n,c7n,e6,e7,hSB⟩:=SB2.out.more (r:=⟨true,rc,rt⟩) (l:=⟨name,true,false⟩) hB0 A6.out O3.out G3.out A7.out (by rw [← HLN.out];exact O4.out) G4.out AT4.out
       have hlen1:(ys++[(⟨true,rc,rt⟩:aw)]).length=ys.length+1:=by simp
       have SRN:Hid (SR w0 S hb (.slice a0 S.n0 c0) (.slice a1 S.n1 c1) w n making tg (.slice (some ⟨pb,po,none⟩) (S.f1 tg).actN cap) L0 R0 w4 (ys++[⟨true,rc,rt⟩]) (ls++[⟨name,true,false⟩]) made2 L2 md2 or2 st2 g6n c6n g7n c7n) :=
        ⟨hSB,RL2.out,PG2.out,RG2.out,(by rw [hlen1,show 201 - (ys.length+1)=200 - ys.length by omega];exact RM2.out),(by rw [hlen1,show 201 - (ys.length+1)=200 - ys.length by omega];exact NX.out),(by rw [hlen1];omega),EX2.out⟩
       obtain ⟨g,rfl⟩:∃ g,gk=g+1:=⟨gk - 1,by omega⟩
       go_roundg g
       case measure=>omega
       case rel=>exact ⟨_,_,_,_,_,_,_,_,_,_,_,e6,e7,SRN,by rw [hlen1];omega⟩
    ·rw [hr] at hpost NXF
     obtain ⟨ca,ck,rfl,⟨q0,q1,qm,qo,qs,hbx,hch⟩,hK⟩:=hpost
     dsimp only at NXF
     subst NXF
     simp only [eE] at hbx hch
     obtain ⟨hbl,-,-,-,-,-,b5,b6,b7,b8,-⟩:=hbx.facts
     have kr2:=(hK.blk _ _ _ _ SB5.out.kr (by decide) (by decide) (by decide) fun h=>h).trans SB5.out.kr
     have KW:=ae (SB5.out.kx.to hK)
     have HBX:=ae hbx
     have HCH:=ae hch
     have A6:=ae ((Below.refl w2.heap.size w2).alloc lr (.cells #[.int .i64 6,.string ⟨#[]⟩,(.slice ca c.length ck)] 41))
     have kr6:=(A6.out.block _ (ai kr2)).trans kr2
     obtain ⟨rl,r0,r1,r2,rf⟩:=aE kr6
     have d5:=(A6.out.cell (p:=⟨hb,5,none⟩) hbl).trans b5
     have d6:=(A6.out.cell (p:=⟨hb,6,none⟩) hbl).trans b6
     have d7:=(A6.out.cell (p:=⟨hb,7,none⟩) hbl).trans b7
     have d8:=(A6.out.cell (p:=⟨hb,8,none⟩) hbl).trans b8
     have rf0:=rf 0
     have rf1:=rf 1
     have rf2:=rf 2
     have hbne:hb≠w.heap.size+1:=fun e=>absurd (ah (e ▸ hbx) kr2) (by decide)
     have HKR:=ae kr6
     clear rf hbx hch hK b5 b6 b7 b8 kr2 kr6
     simp only [fb,eE]
     go_wp2_with fail
     refine bodyPost_ret (v:=.tuple #[fb (eE c) (.slice ca c.length ck),.slice (some ⟨g7,0,none⟩) ls.length c7]) (by simp [results,Tryz.results197,go_sem,r0,r1,r2,fb,eE]) rfl ?_
     have hBr:w0.heap.size≤w.heap.size+1:=by omega
     have hset:∀ (W:World) (v0 v1 v2:Value),(((W.setCell ⟨w.heap.size+1,0,none⟩ v0).setCell ⟨w.heap.size+1,1,none⟩ v1).setCell ⟨w.heap.size+1,2,none⟩ v2).heap[hb]?=W.heap[hb]?:=fun W v0 v1 v2=>(Below.heap_setCell _ _ _ _ hbne).trans ((Below.heap_setCell _ _ _ _ hbne).trans (Below.heap_setCell _ _ _ _ hbne))
     have hrb:∀ k,(Value.ownBlock (.slice ca c.length ck))=some k→k≠w.heap.size+1:=fun k hk e=>by
      obtain ⟨_,_,cs,hc⟩:=af (own_below HCH.out A6.out lr) k hk
      exact absurd (ah (e ▸ hc) HKR.out) (by decide)
     refine ⟨ca,ck,.slice (some ⟨g7,0,none⟩) ls.length c7,rfl,⟨q0,q1,qm,qo,qs,(hset _ _ _ _).trans ((A6.out.block _ hbl).trans HBX.out),ar (ar (ar (own_below HCH.out A6.out lr) (fun e=>hrb _ e rfl) _ _) (fun e=>hrb _ e rfl) _ _) (fun e=>hrb _ e rfl) _ _⟩,?_⟩
     refine ((((KW.out.to (KS.of_below A6.out lr (Nat.le_trans hB0 KW.out.below.size))).trans (KS.setCell (X:=fun i=>i=w.heap.size+1) _ hBr (Or.inl rfl) _) ?_).trans (KS.setCell (X:=fun i=>i=w.heap.size+1) _ hBr (Or.inl rfl) _) ?_).trans (KS.setCell (X:=fun i=>i=w.heap.size+1) _ hBr (Or.inl rfl) _) ?_)
     all_goals
      intro i hi h
      have e2:i=w.heap.size+1:=h
      omega
    ·rw [hr] at hpost NXF
     obtain ⟨rfl,⟨q0,q1,qm,qo,qs,hbx,hch⟩,hK⟩:=hpost
     dsimp only at NXF
     subst NXF
     simp only [eF] at hbx hch
     obtain ⟨hbl,-,-,-,-,-,b5,b6,b7,b8,-⟩:=hbx.facts
     have kr2:=(hK.blk _ _ _ _ SB5.out.kr (by decide) (by decide) (by decide) fun h=>h).trans SB5.out.kr
     have KW:=ae (SB5.out.kx.to hK)
     have HBX:=ae hbx
     have HCH:=ae hch
     have A6:=ae ((Below.refl w2.heap.size w2).alloc lr (.cells #[.int .i64 7,.string d,(.slice none 0 0)] 41))
     have kr6:=(A6.out.block _ (ai kr2)).trans kr2
     obtain ⟨rl,r0,r1,r2,rf⟩:=aE kr6
     have d5:=(A6.out.cell (p:=⟨hb,5,none⟩) hbl).trans b5
     have d6:=(A6.out.cell (p:=⟨hb,6,none⟩) hbl).trans b6
     have d7:=(A6.out.cell (p:=⟨hb,7,none⟩) hbl).trans b7
     have d8:=(A6.out.cell (p:=⟨hb,8,none⟩) hbl).trans b8
     have rf0:=rf 0
     have rf1:=rf 1
     have rf2:=rf 2
     have hbne:hb≠w.heap.size+1:=fun e=>absurd (ah (e ▸ hbx) kr2) (by decide)
     have HKR:=ae kr6
     clear rf hbx hch hK b5 b6 b7 b8 kr2 kr6
     simp only [fb,eF]
     go_wp2_with fail
     refine bodyPost_ret (v:=.tuple #[fb (eF d) (.slice none 0 0),.slice (some ⟨g7,0,none⟩) ls.length c7]) (by simp [results,Tryz.results197,go_sem,r0,r1,r2,fb,eF]) rfl ?_
     have hBr:w0.heap.size≤w.heap.size+1:=by omega
     have hset:∀ (W:World) (v0 v1 v2:Value),(((W.setCell ⟨w.heap.size+1,0,none⟩ v0).setCell ⟨w.heap.size+1,1,none⟩ v1).setCell ⟨w.heap.size+1,2,none⟩ v2).heap[hb]?=W.heap[hb]?:=fun W v0 v1 v2=>(Below.heap_setCell _ _ _ _ hbne).trans ((Below.heap_setCell _ _ _ _ hbne).trans (Below.heap_setCell _ _ _ _ hbne))
     have hrb:∀ k,(Value.ownBlock (.slice none 0 0))=some k→k≠w.heap.size+1:=fun k hk e=>by
      obtain ⟨_,_,cs,hc⟩:=af (own_below HCH.out A6.out lr) k hk
      exact absurd (ah (e ▸ hc) HKR.out) (by decide)
     refine ⟨.slice (some ⟨g7,0,none⟩) ls.length c7,rfl,⟨q0,q1,qm,qo,qs,(hset _ _ _ _).trans ((A6.out.block _ hbl).trans HBX.out),ar (ar (ar (own_below HCH.out A6.out lr) (fun e=>hrb _ e rfl) _ _) (fun e=>hrb _ e rfl) _ _) (fun e=>hrb _ e rfl) _ _⟩,?_⟩
     refine ((((KW.out.to (KS.of_below A6.out lr (Nat.le_trans hB0 KW.out.below.size))).trans (KS.setCell (X:=fun i=>i=w.heap.size+1) _ hBr (Or.inl rfl) _) ?_).trans (KS.setCell (X:=fun i=>i=w.heap.size+1) _ hBr (Or.inl rfl) _) ?_).trans (KS.setCell (X:=fun i=>i=w.heap.size+1) _ hBr (Or.inl rfl) _) ?_)
     all_goals
      intro i hi h
      have e2:i=w.heap.size+1:=h
      omega
end
end Go.Proofs.YtkophfgkcijjkaaGreatDoor.Vp
