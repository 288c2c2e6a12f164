import Derived.Test.YtkophfgkcijjkaaGreatDoorYD
import Derived.Deep.WholeRow
set_option maxRecDepth 100000
set_option maxHeartbeats 4000000
namespace Go.Proofs.YtkophfgkcijjkaaGreatDoor.Vp
open RowKit
def m0:Mst:={ S:=fun _=>⟨#[]⟩,size:=0,place:=0,steps:=0,looks:=0,t:=bw }
def dr (cv:Value):Array Value:=(Array.range 61).map (m0.F cv)
theorem sE (a:Option Addr)(n cap:Nat):Tryz.prog.built 147 [(1,.slice a n cap)]=some (dr (.slice a n cap)):=by kernel_rfl
theorem infoM:(Tryz.prog.info? 147).map (·.size)=some 61:=by kernel_rfl
theorem fN (cv:Value):(dr cv).size=61:=by simp [dr]
theorem uj (cv:Value)(j:Nat)(h:j<61):(dr cv)[j]?=some (m0.F cv j):=by simp [dr,h]
theorem lM (a:Option Addr)(n cap:Nat):(dr (.slice a n cap)).all (·.oneCell')=true:=by kernel_rfl
theorem nO (w:World)(a:Option Addr)(n cap:Nat):MAt (w.alloc (.cells (dr (.slice a n cap)) 147)) w.heap.size (.slice a n cap) m0:=by
 refine ⟨by simp,fun j hj=>⟨?_,?_⟩⟩
 ·rw [World.cell?_alloc_new]
  exact uj _ j hj
 ·simp
theorem nP {P:Program}{ops:Array Oper}{rest:List Oper}{o:Oper}{a:Act}{w:World}{Q:Exit→Act→World→Prop}(hg:o.guard=none)(t:TypeId)(parts:Array (Nat × Operand))(ho:o.op=.build t parts)
  (l:List (Nat × Value)) (cells:Array Value) (hl:(parts.map fun (i,x)=>(i,a.eval x)).toList=l) (hb:P.built t l=some cells) (h:wpList P ops Q rest (a.put o.dst (.agg cells)) w):wpList P ops Q (o :: rest) a w:=by
 refine wpList_build hg t parts ho (by rw [hl,hb];rfl) ?_
 rw [hl,hb]
 exact h
theorem Pow.lt {w:World}(h:Pow w):2<w.heap.size:=by
 have hc:=World.var?_cell gPow h 0
 rcases Nat.lt_or_ge 2 w.heap.size with h' | h'
 ·exact h'
 ·simp [World.cell?,Array.getElem?_eq_none h',Lib.pow10Tab] at hc
theorem Sim.push {m:Mst}{p st l:Nat}{s:List ByteArray}(hS:Sim m p st l s)(x:ByteArray)(hx:x.size≤2000)(hl:s.length<50):Sim { m with t:=bw,S:=upd m.S m.size x,size:=m.size+1 } p st l (x :: s) :=
 ⟨by rw [hS.size];exact hS.rep.push x,by simp [hS.size],by simp;omega,hS.hpl,hS.hst,hS.hlk,fun z hz=>by
  rcases List.mem_cons.1 hz with rfl | hz
  ·exact hx
  ·exact hS.le z hz,hS.pl,hS.st,hS.lk⟩
theorem eX (b:Bool):(cY b).size≤2000:=by cases b<;>decide
def Six (w:World)(g:Nat):Prop:=g<w.heap.size∧∀ j,j<6→∃ v,w.cell? ⟨g,j,none⟩=some v∧w.frozen? ⟨g,j,none⟩=false
theorem Six.below {w w1:World}{g B:Nat}(h:Six w g)(hB:Below B w w1)(hg:g<B):Six w1 g:=⟨ll h.1 hB.size,fun j hj=>by
 obtain ⟨v,h1,h2⟩:=h.2 j hj
 exact ⟨v,(hB.cell (p:=⟨g,j,none⟩) hg).trans h1,(hB.frozen (p:=⟨g,j,none⟩) hg).trans h2⟩⟩
theorem Six.only {w w1:World}{g b:Nat}(h:Six w g)(hB:Only b w w1)(hg:g≠b):Six w1 g:=⟨ll h.1 hB.size,fun j hj=>by
 obtain ⟨v,h1,h2⟩:=h.2 j hj
 exact ⟨v,(hB.cell g j h.1 hg).trans h1,(hB.frozen g j h.1 hg).trans h2⟩⟩
theorem eJ (w:World)(v0 v1 v2 v3 v4 v5:Value)(t:TypeId):Six (w.alloc (.cells #[v0,v1,v2,v3,v4,v5] t)) w.heap.size:=⟨by simp,fun j hj=>by
 rcases (show j=0∨j=1∨j=2∨j=3∨j=4∨j=5 by omega) with rfl | rfl | rfl | rfl | rfl | rfl
 all_goals exact ⟨_,by simp;rfl,by simp⟩⟩
theorem dk {B g:Nat}{u w:World}(h:Below B u w)(hg:B≤g)(v0 v1 v2 v3 v4 v5:Value):Below B u ((((((w.setCell ⟨g,0,none⟩ v0).setCell ⟨g,1,none⟩ v1).setCell ⟨g,2,none⟩ v2).setCell ⟨g,3,none⟩ v3).setCell ⟨g,4,none⟩ v4).setCell ⟨g,5,none⟩ v5) :=
 (((((h.setCell hg v0).setCell hg v1).setCell hg v2).setCell hg v3).setCell hg v4).setCell hg v5
def Goes (f:Nat→Ins)(cnt:Nat)(m:Mst)(H:Halt):Prop:=(m.t=bw∧∃ p k l s,Sim m p k l s∧gX f cnt (2001 - k) p k l s=some H)∨dq m H
theorem lg {f:Nat→Ins}{cnt:Nat}{y:Nat→aw}{n:Nat}{m:Mst}{p st l:Nat}{s:List ByteArray}(ht:m.t=bw)(hS:Sim m p st l s):∃ H,Goes f cnt m H∧cU f cnt y n H=b9 f cnt y n (2001 - st) p st l s∧ej l H:=by
 obtain ⟨H,hH⟩:=iQ f cnt (2001 - st) p st l s hS.st (by have:=hS.st;omega)
 obtain ⟨h1,h2⟩:=gZ f cnt y n (2001 - st) p st l s H hS.st rfl hH
 exact ⟨H,.inl ⟨ht,p,st,l,s,hS,hH⟩,h1.symm,h2⟩
def badT:Turn:=⟨false,9,⟨#[]⟩,false,⟨#[]⟩,0⟩
def fu (f:Nat→Ins)(cnt:Nat)(y:Nat→aw)(n:Nat):Turn:=if valid f cnt=false then badT else if 200<n then badT else if aZ y n=false then badT else b9 f cnt y n 2001 0 0 0 []
theorem nQ {f:Nat→Ins}{cnt:Nat}{m:Mst}{p st l:Nat}{s:List ByteArray}(ht:m.t=bw)(hS:Sim m p st l s):∃ H,Goes f cnt m H∧ej l H∧∀ y n,cU f cnt y n H=b9 f cnt y n (2001 - st) p st l s:=by
 obtain ⟨H,hH⟩:=iQ f cnt (2001 - st) p st l s hS.st (by have:=hS.st;omega)
 exact ⟨H,.inl ⟨ht,p,st,l,s,hS,hH⟩,(gZ f cnt (fun _=>⟨false,0,⟨#[]⟩⟩) 0 _ p st l s H hS.st rfl hH).2,fun y n=>(gZ f cnt y n _ p st l s H hS.st rfl hH).1.symm⟩
theorem oU (b:Nat)(cv:Value)(f:Nat→Ins)(cnt:Nat)(m:Mst)(a:Bool)(nm:ByteArray)(s:List ByteArray)(p st l:Nat)(r:aw)(w:World)(hM:MAt w b cv m)(hSt:dq m (.inr (a,nm,s,p,st,l)))(hl:1≤l)(hr:r.text.size≤2000) :
  Calls Tryz.prog 107 #[.pointer (some ⟨b,0,none⟩),.agg #[.bool r.has,.int .i64 r.code,.string r.text]] w fun e w'=>e=.returned (.tuple #[])∧∃ m' H',MAt w' b cv m'∧Goes f cnt m' H'∧ej l H'∧(∀ y n,l≤n→y (l - 1)=r→cU f cnt y n (.inr (a,nm,s,p,st,l))=cU f cnt y n H')∧Only b w w':=by
 obtain ⟨ht,hS,hnm,hs⟩:=hSt
 have ha:m.t.ask=a:=by rw [ht]
 have hn2:m.t.name=nm:=by rw [ht]
 have hz:m.size<50:=by rw [hS.size];exact hs
 cases a with
 | false =>
  refine (kq b cv m r.has r.code r.text w hM ha hz).mono ?_
  rintro e w' ⟨rfl,hM',hO⟩
  obtain ⟨H',g1,g2,g3⟩:=nQ (f:=f) (cnt:=cnt) (m:={ m with t:=bw,S:=upd m.S m.size (cY r.has),size:=m.size+1 }) rfl (hS.push (cY r.has) (eX _) hs)
  refine ⟨rfl,_,H',hM',g1,g2,fun y n hn hy=>?_,hO⟩
  rw [g3 y n]
  simp only [cU,hy]
  rw [if_neg (by omega),if_pos trivial]
 | true =>
  by_cases h1:r.has=false
  ·rw [h1]
   refine (gH b cv m r.code r.text w hM ha).mono ?_
   rintro e w' ⟨rfl,hM',hO⟩
   refine ⟨rfl,_,.inl (4,nm,st),hM',.inr ?_,trivial,fun y n hn hy=>?_,hO⟩
   ·show fJ m 4=_
    simp only [fJ,hn2,hS.hst]
   ·simp only [cU,hy]
    rw [if_neg (by omega)]
    simp [h1]
  ·have h1':r.has=true:=by simpa using h1
   by_cases h2:r.code=0
   ·rw [h1',h2]
    refine (ku b cv m r.text w hM ha hz).mono ?_
    rintro e w' ⟨rfl,hM',hO⟩
    obtain ⟨H',g1,g2,g3⟩:=nQ (f:=f) (cnt:=cnt) (m:={ m with t:=bw,S:=upd m.S m.size r.text,size:=m.size+1 }) rfl (hS.push r.text hr hs)
    refine ⟨rfl,_,H',hM',g1,g2,fun y n hn hy=>?_,hO⟩
    rw [g3 y n]
    simp only [cU,hy]
    rw [if_neg (by omega)]
    simp [h1',h2]
   ·rw [h1']
    refine (iR b cv m r.code r.text w hM ha (by simpa using h2)).mono ?_
    rintro e w' ⟨rfl,hM',hO⟩
    refine ⟨rfl,_,.inl (5,nm,st),hM',.inr ?_,trivial,fun y n hn hy=>?_,hO⟩
    ·show fJ m 5=_
     simp only [fJ,hn2,hS.hst]
    ·simp only [cU,hy]
     rw [if_neg (by omega)]
     simp [h1',h2]
theorem qY (b pb po cnt cap:Nat)(f:Nat→Ins)(m:Mst)(H:Halt)(r:aw)(w:World)(hM:MAt w b (.slice (some ⟨pb,po,none⟩) cnt cap) m)(hE:Env w b pb po cnt f)(hn:m.t.name=⟨#[]⟩)(hc:cnt≤200)(hok:cG f cnt=true)(hG:Goes f cnt m H) :
  Calls Tryz.prog 272 #[.agg #[.bool r.has,.int .i64 r.code,.string r.text],.pointer (some ⟨b,0,none⟩)] w fun e w'=>∃ m',e=.returned m'.t.v∧MAt w' b (.slice (some ⟨pb,po,none⟩) cnt cap) m'∧dq m' H∧Only b w w':=by
 have hlt:=hM.lt
 have HM0:=ae ((hM.al (.cells #[.bool r.has,.int .i64 r.code,.string r.text] 75)).al (.cells #[.bool false,.int .i64 0,.string ⟨#[]⟩,.bool false,.string ⟨#[]⟩,.int .i64 0] 70))
 have HO0:=ae (((Only.refl b w).al (.cells #[.bool r.has,.int .i64 r.code,.string r.text] 75)).al (.cells #[.bool false,.int .i64 0,.string ⟨#[]⟩,.bool false,.string ⟨#[]⟩,.int .i64 0] 70))
 have hx0:=eJ (w.alloc (.cells #[.bool r.has,.int .i64 r.code,.string r.text] 75)) (.bool false) (.int .i64 0) (.string ⟨#[]⟩) (.bool false) (.string ⟨#[]⟩) (.int .i64 0) 70
 rw [show (w.alloc (.cells #[.bool r.has,.int .i64 r.code,.string r.text] 75)).heap.size=w.heap.size+1 by simp] at hx0
 have X0:=ae hx0
 have HE:=ae hE
 have HG:=ae hG
 obtain ⟨⟨c5,z5⟩,⟨c6,z6⟩,⟨c7,z7⟩,⟨c8,z8⟩,⟨c9,z9⟩,c10,z10⟩:=HM0.out.turn
 rw [hn] at c9
 clear hM hE hG hx0 c5 z5 c6 z6 c7 z7 c8 z8 z9 c10 z10
 go_enter Tryz.func272,Tryz.ntmps272
 go_wp2_with fail
 clear c9
 generalize ((w.alloc (.cells #[.bool r.has,.int .i64 r.code,.string r.text] 75)).alloc (.cells #[.bool false,.int .i64 0,.string ⟨#[]⟩,.bool false,.string ⟨#[]⟩,.int .i64 0] 70))=W0 at HM0 HO0 X0 ⊢
 have hb0:b<W0.heap.size:=HM0.out.lt
 refine (jj b pb po cnt cap f m H _ HM0.out (HE.out.only hlt HO0.out) hc hok HG.out).mono ?_
 rintro e w3 ⟨m2,rfl,hM2,hSt,hO2⟩
 have HO3:=ae hO2
 clear hO2
 have HX:=ae (X0.out.only HO3.out (by omega))
 have hx3:w.heap.size+1<w3.heap.size:=HX.out.1
 have HMM:=ae hM2
 have HSS:=ae hSt
 have HOO:=ae (HO0.out.trans HO3.out)
 clear hM2 hSt
 obtain ⟨v0,q0,y0⟩:=HX.out.2 0 (by omega)
 obtain ⟨v1,q1,y1⟩:=HX.out.2 1 (by omega)
 obtain ⟨v2,q2,y2⟩:=HX.out.2 2 (by omega)
 obtain ⟨v3,q3,y3⟩:=HX.out.2 3 (by omega)
 obtain ⟨v4,q4,y4⟩:=HX.out.2 4 (by omega)
 obtain ⟨v5,q5,y5⟩:=HX.out.2 5 (by omega)
 have hne:w.heap.size+1≠b:=by omega
 have MM:=ae ((((((HMM.out.other (w.heap.size+1) 0 (.bool m2.t.over) hne).other (w.heap.size+1) 1 (.int .i64 m2.t.code) hne).other (w.heap.size+1) 2 (.string m2.t.text) hne).other (w.heap.size+1) 3 (.bool m2.t.ask) hne).other (w.heap.size+1) 4 (.string m2.t.name) hne).other (w.heap.size+1) 5 (.int .i64 m2.t.steps) hne)
 have OO:=ae ((((((HOO.out.setNew (w.heap.size+1) 0 (.bool m2.t.over) (by omega)).setNew (w.heap.size+1) 1 (.int .i64 m2.t.code) (by omega)).setNew (w.heap.size+1) 2 (.string m2.t.text) (by omega)).setNew (w.heap.size+1) 3 (.bool m2.t.ask) (by omega)).setNew (w.heap.size+1) 4 (.string m2.t.name) (by omega)).setNew (w.heap.size+1) 5 (.int .i64 m2.t.steps) (by omega))
 simp only [Turn.v]
 go_wp2
 exact bodyPost_ret (v:=m2.t.v) (by simp [results,Tryz.results272,go_sem,Turn.v,q0,q1,q2,q3,q4,q5]) rfl ⟨m2,rfl,MM.out,HSS.out,OO.out⟩
theorem lN (b pb po cnt cap:Nat)(f:Nat→Ins)(m:Mst)(a:Bool)(nm:ByteArray)(s:List ByteArray)(p st l:Nat)(r:aw)(w:World)(hM:MAt w b (.slice (some ⟨pb,po,none⟩) cnt cap) m)(hE:Env w b pb po cnt f)(hS:dq m (.inr (a,nm,s,p,st,l)))(hl:1≤l)(hr:r.text.size≤2000)(hc:cnt≤200)(hok:cG f cnt=true) :
  Calls Tryz.prog 272 #[.agg #[.bool r.has,.int .i64 r.code,.string r.text],.pointer (some ⟨b,0,none⟩)] w fun e w'=>∃ m' H',e=.returned m'.t.v∧MAt w' b (.slice (some ⟨pb,po,none⟩) cnt cap) m'∧dq m' H'∧ej l H'∧(∀ y n,l≤n→y (l - 1)=r→cU f cnt y n (.inr (a,nm,s,p,st,l))=cU f cnt y n H')∧Only b w w':=by
 have hlt:=hM.lt
 have HM0:=ae ((hM.al (.cells #[.bool r.has,.int .i64 r.code,.string r.text] 75)).al (.cells #[.bool false,.int .i64 0,.string ⟨#[]⟩,.bool false,.string ⟨#[]⟩,.int .i64 0] 70))
 have HO0:=ae (((Only.refl b w).al (.cells #[.bool r.has,.int .i64 r.code,.string r.text] 75)).al (.cells #[.bool false,.int .i64 0,.string ⟨#[]⟩,.bool false,.string ⟨#[]⟩,.int .i64 0] 70))
 have hx0:=eJ (w.alloc (.cells #[.bool r.has,.int .i64 r.code,.string r.text] 75)) (.bool false) (.int .i64 0) (.string ⟨#[]⟩) (.bool false) (.string ⟨#[]⟩) (.int .i64 0) 70
 rw [show (w.alloc (.cells #[.bool r.has,.int .i64 r.code,.string r.text] 75)).heap.size=w.heap.size+1 by simp] at hx0
 have X0:=ae hx0
 have HE:=ae hE
 have HS:=ae hS
 have hnm:m.t.name=nm:=by have:=hS.1;rw [this]
 have hne:nm.toList.isEmpty=false:=by
  have hn:=hS.2.2.1
  have h0:¬ nm.size=0:=by
   simp only [au,Bool.and_eq_true,decide_eq_true_eq] at hn
   omega
  have:=iG h0
  cases h:nm.toList with
  | nil=>exact absurd h this
  | cons _ _=>rfl
 obtain ⟨⟨c5,z5⟩,⟨c6,z6⟩,⟨c7,z7⟩,⟨c8,z8⟩,⟨c9,z9⟩,c10,z10⟩:=HM0.out.turn
 rw [hnm] at c9
 clear hM hE hS hx0 hnm c5 z5 c6 z6 c7 z7 c8 z8 z9 c10 z10
 go_enter Tryz.func272,Tryz.ntmps272
 go_wp2_with fail
 clear c9 hne
 generalize ((w.alloc (.cells #[.bool r.has,.int .i64 r.code,.string r.text] 75)).alloc (.cells #[.bool false,.int .i64 0,.string ⟨#[]⟩,.bool false,.string ⟨#[]⟩,.int .i64 0] 70))=W0 at HM0 HO0 X0 ⊢
 have hb0:b<W0.heap.size:=HM0.out.lt
 refine (oU b (.slice (some ⟨pb,po,none⟩) cnt cap) f cnt m a nm s p st l r _ HM0.out HS.out hl hr).mono ?_
 rintro e w1 ⟨rfl,m1,H',hM1,hG1,hL1,hC1,hO1⟩
 have HM1:=ae hM1
 have HG1:=ae hG1
 have HL1:=ae hL1
 have HC1:=ae hC1
 have HO1:=ae hO1
 clear hM1 hG1 hL1 hC1 hO1
 go_wp2_with fail
 refine (jj b pb po cnt cap f m1 H' _ HM1.out (HE.out.only hlt (HO0.out.trans HO1.out)) hc hok HG1.out).mono ?_
 rintro e w3 ⟨m2,rfl,hM2,hSt,hO2⟩
 have HO3:=ae (HO1.out.trans hO2)
 clear hO2
 have HX:=ae (X0.out.only HO3.out (by omega))
 have hx3:w.heap.size+1<w3.heap.size:=HX.out.1
 have HMM:=ae hM2
 have HSS:=ae hSt
 have HOO:=ae (HO0.out.trans HO3.out)
 clear hM2 hSt
 obtain ⟨v0,q0,y0⟩:=HX.out.2 0 (by omega)
 obtain ⟨v1,q1,y1⟩:=HX.out.2 1 (by omega)
 obtain ⟨v2,q2,y2⟩:=HX.out.2 2 (by omega)
 obtain ⟨v3,q3,y3⟩:=HX.out.2 3 (by omega)
 obtain ⟨v4,q4,y4⟩:=HX.out.2 4 (by omega)
 obtain ⟨v5,q5,y5⟩:=HX.out.2 5 (by omega)
 have hne:w.heap.size+1≠b:=by omega
 have MM:=ae ((((((HMM.out.other (w.heap.size+1) 0 (.bool m2.t.over) hne).other (w.heap.size+1) 1 (.int .i64 m2.t.code) hne).other (w.heap.size+1) 2 (.string m2.t.text) hne).other (w.heap.size+1) 3 (.bool m2.t.ask) hne).other (w.heap.size+1) 4 (.string m2.t.name) hne).other (w.heap.size+1) 5 (.int .i64 m2.t.steps) hne)
 have OO:=ae ((((((HOO.out.setNew (w.heap.size+1) 0 (.bool m2.t.over) (by omega)).setNew (w.heap.size+1) 1 (.int .i64 m2.t.code) (by omega)).setNew (w.heap.size+1) 2 (.string m2.t.text) (by omega)).setNew (w.heap.size+1) 3 (.bool m2.t.ask) (by omega)).setNew (w.heap.size+1) 4 (.string m2.t.name) (by omega)).setNew (w.heap.size+1) 5 (.int .i64 m2.t.steps) (by omega))
 simp only [Turn.v]
 go_wp2
 exact bodyPost_ret (v:=m2.t.v) (by simp [results,Tryz.results272,go_sem,Turn.v,q0,q1,q2,q3,q4,q5]) rfl ⟨m2,H',rfl,MM.out,HSS.out,HL1.out,HC1.out,OO.out⟩
theorem oV {f:Nat→Ins}{cnt i:Nat}{y:Nat→aw}{m:Mst}{H:Halt}(hS:dq m H)(hL:ej i H):cU f cnt y i H=m.t:=by
 rcases H with ⟨c,x,k⟩ | ⟨a,nm,s,p,k,l⟩
 ·exact (show m.t=⟨true,c,x,false,⟨#[]⟩,k⟩ from hS).symm
 ·have el:l=i+1:=hL
  subst el
  simp only [cU,Nat.add_sub_cancel]
  rw [if_pos lr ]
  exact hS.1.symm
theorem oW {m:Mst}{H:Halt}(hS:dq m H)(ho:m.t.over=false):∃ a nm s p k l,H=.inr (a,nm,s,p,k,l):=by
 rcases H with ⟨c,x,k⟩ | ⟨a,nm,s,p,k,l⟩
 ·have:m.t=⟨true,c,x,false,⟨#[]⟩,k⟩:=hS
  rw [this] at ho
  simp at ho
 ·exact ⟨a,nm,s,p,k,l,rfl⟩
def TurnBox (w:World)(g:Nat)(t:Turn):Prop:=g<w.heap.size∧(w.cell? ⟨g,0,none⟩=some (.bool t.over)∧w.cell? ⟨g,1,none⟩=some (.int .i64 t.code)∧w.cell? ⟨g,2,none⟩=some (.string t.text)∧w.cell? ⟨g,3,none⟩=some (.bool t.ask)∧w.cell? ⟨g,4,none⟩=some (.string t.name)∧w.cell? ⟨g,5,none⟩=some (.int .i64 t.steps))∧∀ j,w.frozen? ⟨g,j,none⟩=false
theorem TurnBox.below {w w':World}{g B:Nat}{t:Turn}(h:TurnBox w g t)(hb:Below B w w')(hB:g<B):TurnBox w' g t:=by
 obtain ⟨h1,⟨c0,c1,c2,c3,c4,c5⟩,hz⟩:=h
 exact ⟨ll h1 hb.size,⟨(hb.cell (p:=⟨g,_,none⟩) hB).trans c0,(hb.cell (p:=⟨g,_,none⟩) hB).trans c1,(hb.cell (p:=⟨g,_,none⟩) hB).trans c2,(hb.cell (p:=⟨g,_,none⟩) hB).trans c3,(hb.cell (p:=⟨g,_,none⟩) hB).trans c4,(hb.cell (p:=⟨g,_,none⟩) hB).trans c5⟩,fun j=>(hb.frozen (p:=⟨g,j,none⟩) hB).trans (hz j)⟩
theorem TurnBox.only {w w':World}{g b:Nat}{t:Turn}(h:TurnBox w g t)(ho:Only b w w')(hg:g≠b):TurnBox w' g t:=by
 obtain ⟨h1,⟨c0,c1,c2,c3,c4,c5⟩,hz⟩:=h
 exact ⟨ll h1 ho.size,⟨(ho.cell g _ h1 hg).trans c0,(ho.cell g _ h1 hg).trans c1,(ho.cell g _ h1 hg).trans c2,(ho.cell g _ h1 hg).trans c3,(ho.cell g _ h1 hg).trans c4,(ho.cell g _ h1 hg).trans c5⟩,fun j=>(ho.frozen g j h1 hg).trans (hz j)⟩
theorem TurnBox.six {w:World}{g:Nat}{t:Turn}(h:TurnBox w g t):Six w g:=by
 obtain ⟨h1,⟨c0,c1,c2,c3,c4,c5⟩,hz⟩:=h
 refine ⟨h1,fun j hj=>?_⟩
 rcases (show j=0∨j=1∨j=2∨j=3∨j=4∨j=5 by omega) with rfl | rfl | rfl | rfl | rfl | rfl
 ·exact ⟨_,c0,hz _⟩
 ·exact ⟨_,c1,hz _⟩
 ·exact ⟨_,c2,hz _⟩
 ·exact ⟨_,c3,hz _⟩
 ·exact ⟨_,c4,hz _⟩
 ·exact ⟨_,c5,hz _⟩
def fj (w:World)(g:Nat)(t:Turn):World:=(((((w.setCell ⟨g,0,none⟩ (.bool t.over)).setCell ⟨g,1,none⟩ (.int .i64 t.code)).setCell ⟨g,2,none⟩ (.string t.text)).setCell ⟨g,3,none⟩ (.bool t.ask)).setCell ⟨g,4,none⟩ (.string t.name)).setCell ⟨g,5,none⟩ (.int .i64 t.steps)
theorem nR {w:World}{g:Nat}(t:Turn):Only g w (fj w g t):=bC (bC (bC (bC (bC (bC (Only.refl g w) 0 _) 1 _) 2 _) 3 _) 4 _) 5 _
theorem MAt.boxed {w:World}{b:Nat}{cv:Value}{m:Mst}(h:MAt w b cv m){g:Nat}(hg:g≠b)(t:Turn):MAt (fj w g t) b cv m :=
 (((((h.other g 0 (.bool t.over) hg).other g 1 (.int .i64 t.code) hg).other g 2 (.string t.text) hg).other g 3 (.bool t.ask) hg).other g 4 (.string t.name) hg).other g 5 (.int .i64 t.steps) hg
abbrev ce (at_:Int)(sv:Value)(st lk:Int)(ov:Bool)(c:Int)(x:ByteArray)(ask:Bool)(nm:ByteArray)(wt:Bool):Value :=
 .agg #[.int .i64 at_,sv,.int .i64 st,.int .i64 lk,.bool ov,.int .i64 c,.string x,.bool ask,.string nm,.bool wt]
theorem cI {B g:Nat}{u w:World}(h:Below B u w)(hg:B≤g)(v0 v1 v2 v3 v4 v5 v6 v7 v8 v9:Value):Below B u ((((((((((w.setCell ⟨g,0,none⟩ v0).setCell ⟨g,1,none⟩ v1).setCell ⟨g,2,none⟩ v2).setCell ⟨g,3,none⟩ v3).setCell ⟨g,4,none⟩ v4).setCell ⟨g,5,none⟩ v5).setCell ⟨g,6,none⟩ v6).setCell ⟨g,7,none⟩ v7).setCell ⟨g,8,none⟩ v8).setCell ⟨g,9,none⟩ v9) :=
 (((((((((h.setCell hg v0).setCell hg v1).setCell hg v2).setCell hg v3).setCell hg v4).setCell hg v5).setCell hg v6).setCell hg v7).setCell hg v8).setCell hg v9
theorem dd (at_:Int)(a:Option Addr)(n cap:Nat)(st lk:Int)(ov:Bool)(c0:Int)(x0:ByteArray)(ask:Bool)(nm:ByteArray)(wt:Bool)(c:Int)(x:ByteArray)(w:World) :
  Calls Tryz.prog 255 #[ce at_ (.slice a n cap) st lk ov c0 x0 ask nm wt,.int .i64 c,.string x] w fun e w'=>e=.returned (ce at_ (.slice a n cap) st lk true c x ask nm wt)∧Below w.heap.size w w':=by
 go_enter Tryz.func255,Tryz.ntmps255
 go_wp2
 refine bodyPost_ret (v:=ce at_ (.slice a n cap) st lk true c x ask nm wt) (by simp [results,Tryz.results255,go_sem]) rfl ⟨rfl,(br.alloc lr _).alloc (by simp) _⟩
theorem oX (op:Nat)(w:World)(h1:1≤op)(h15:op≤15) :
  Calls Tryz.prog 256 #[.int .i64 op] w fun e w'=>e=.returned (.tuple #[.int .i64 (aB op),.int .i64 (bi op)])∧w'=w:=by
 rcases (show op=1∨op=2∨op=3∨op=4∨op=5∨op=6∨op=7∨op=8∨op=9∨op=10∨op=11∨op=12∨op=13∨op=14∨op=15 by omega) with rfl | rfl | rfl | rfl | rfl | rfl | rfl | rfl | rfl | rfl | rfl | rfl | rfl | rfl | rfl
 all_goals
  go_enter Tryz.func256,Tryz.ntmps256
  go_wp2
  refine bodyPost_ret (v:=.tuple #[.int .i64 (aB _),.int .i64 (bi _)]) (by simp [results,Tryz.results256,go_sem,aB,bi]) rfl ⟨rfl,rfl⟩
def bB (op n:Nat)(t a b:ByteArray):List ByteArray :=
 match op with
 | 1=>[t]
 | 2=>[b++a]
 | 3=>[if n<a.size then a.extract 0 n else a]
 | 4=>[if n<a.size then a.extract n a.size else ⟨#[]⟩]
 | 5=>[dI a n]
 | 6=>[cY (a.toList == b.toList)]
 | 7=>[a,a]
 | 8=>[a,b]
 | _=>[]
theorem iS (w:World)(x:ByteArray)(g:Nat)(hg:g=w.heap.size):RowStr (w.alloc (.cells #[.string x] 9)) g 0 1 (fun i=>[x].getD i ⟨#[]⟩):=by
 subst hg
 exact ⟨by simp,fun i hi=>by
  obtain rfl:i=0:=by omega
  simp⟩
theorem wK (w:World)(x y:ByteArray)(g:Nat)(hg:g=w.heap.size):RowStr (w.alloc (.cells #[.string x,.string y] 9)) g 0 2 (fun i=>[x,y].getD i ⟨#[]⟩):=by
 subst hg
 exact ⟨by simp,fun i hi=>by rcases (show i=0∨i=1 by omega) with rfl | rfl<;>simp⟩
theorem oY (op n:Nat)(t a b:ByteArray)(w:World)(h1:1≤op)(h8:op≤8)(ha:a.size≤2000)(hb:b.size≤2000)(hn:n≤2000) :
  Calls Tryz.prog 258 #[.agg #[.int .i64 op,.string t,.int .i64 n],.string a,.string b] w fun e w'=>∃ g,e=.returned (.slice (some ⟨g,0,none⟩) (bB op n t a b).length (bB op n t a b).length)∧RowStr w' g 0 (bB op n t a b).length (fun i=>(bB op n t a b).getD i ⟨#[]⟩)∧w.heap.size≤g∧Below w.heap.size w w':=by
 have A0:=ae ((Below.refl w.heap.size w).alloc lr (.cells #[.int .i64 op,.string t,.int .i64 n] 176))
 rcases (show op=1∨op=2∨op=3∨op=4∨op=5∨op=6∨op=7∨op=8 by omega) with rfl | rfl | rfl | rfl | rfl | rfl | rfl | rfl
 ·go_enter Tryz.func258,Tryz.ntmps258
  go_wp2
  go_ret
  exact ⟨_,rfl,iS _ t _ (by simp),by simp,A0.out.alloc (by simp) _⟩
 ·go_enter Tryz.func258,Tryz.ntmps258
  go_wp2
  go_ret
  exact ⟨_,rfl,iS _ (b++a) _ (by simp),by simp,A0.out.alloc (by simp) _⟩
 ·by_cases h:(n:Int)<a.size
  ·have e:bB 3 n t a b=[a.extract 0 n]:=by simp [bB];omega
   rw [e]
   clear e
   go_enter Tryz.func258,Tryz.ntmps258
   go_wp2
   go_ret
   exact ⟨_,rfl,iS _ _ _ (by simp),by simp,A0.out.alloc (by simp) _⟩
  ·have e:bB 3 n t a b=[a]:=by simp [bB];omega
   rw [e]
   clear e
   go_enter Tryz.func258,Tryz.ntmps258
   go_wp2
   go_ret
   exact ⟨_,rfl,iS _ _ _ (by simp),by simp,A0.out.alloc (by simp) _⟩
 ·by_cases h:(n:Int)<a.size
  ·have e:bB 4 n t a b=[a.extract n a.size]:=by simp [bB];omega
   rw [e]
   clear e
   go_enter Tryz.func258,Tryz.ntmps258
   go_wp2
   go_ret
   exact ⟨_,rfl,iS _ _ _ (by simp),by simp,A0.out.alloc (by simp) _⟩
  ·have e:bB 4 n t a b=[⟨#[]⟩]:=by simp [bB];omega
   rw [e]
   clear e
   go_enter Tryz.func258,Tryz.ntmps258
   go_wp2
   go_ret
   exact ⟨_,rfl,iS _ _ _ (by simp),by simp,A0.out.alloc (by simp) _⟩
 ·go_enter Tryz.func258,Tryz.ntmps258
  go_wp2_with fail
  refine (oS a n _ ha hn).mono ?_
  rintro e w1 ⟨rfl,hB1⟩
  have B1:=ae (A0.out.trans (hB1.mono (by simp)))
  clear hB1
  go_wp2
  go_ret
  exact ⟨_,rfl,iS _ (dI a n) _ rfl,B1.out.size,B1.out.alloc B1.out.size _⟩
 ·go_enter Tryz.func258,Tryz.ntmps258
  go_wp2_with fail
  refine (kg _ _).mono ?_
  rintro e w1 ⟨rfl,rfl⟩
  go_wp2
  go_ret
  exact ⟨_,rfl,iS _ (cY (a.toList == b.toList)) _ (by simp),by simp,A0.out.alloc (by simp) _⟩
 ·go_enter Tryz.func258,Tryz.ntmps258
  go_wp2
  go_ret
  exact ⟨_,rfl,wK _ a a _ (by simp),by simp,A0.out.alloc (by simp) _⟩
 ·go_enter Tryz.func258,Tryz.ntmps258
  go_wp2
  go_ret
  exact ⟨_,rfl,wK _ a b _ (by simp),by simp,A0.out.alloc (by simp) _⟩
theorem oZ (pb po cnt cap b2 o2 n cap2:Nat)(f:Nat→Ins)(y:Nat→aw)(w:World)(hv:valid f cnt=true)(hn2:(n:Int)≤200)(hr:aZ y n=true)(hP:RowIns w pb po cnt f)(hY:RowReply w b2 o2 n y)(hT:Tab w)(hT2:Tab2 w)(hPow:Pow w) :
  Calls Tryz.prog 32 #[.agg #[.slice (some ⟨pb,po,none⟩) cnt cap],.slice (some ⟨b2,o2,none⟩) n cap2] w fun e w'=>e=.returned (b9 f cnt y n 2001 0 0 0 []).v∧Below w.heap.size w w':=by
 have hc2:cnt≤200:=by have:=(bR hv).2.2;omega
 have IV:=fun w' h1 h2 h3=>eD pb po cnt cap f w' (by omega) h1 h2 h3
 rw [hv] at IV
 have VR:=fun w' h=>fZ b2 o2 n cap2 y w' hn2 h
 rw [hr] at VR
 have HIV:=ae IV
 have HVR:=ae VR
 clear IV VR
 have HP:=ae hP
 have HY:=ae hY
 have HT:=ae hT
 have HT2:=ae hT2
 have HPow:=ae hPow
 have HV:=ae (bR hv).1
 have HR:=ae hr
 clear hP hY hT hT2 hPow hv hr
 obtain ⟨T,hTT⟩:∃ T,T=b9 f cnt y n 2001 0 0 0 []:=⟨_,rfl⟩
 rw [← hTT]
 have HTT:=ae hTT
 clear hTT
 have A0:=ae ((((Below.refl w.heap.size w).alloc lr (.cells #[.slice (some ⟨pb,po,none⟩) cnt cap] 31))).alloc (by simp) (.cells #[.bool false,.int .i64 0,.string ⟨#[]⟩,.bool false,.string ⟨#[]⟩,.int .i64 0] 70))
 have hx0:=eJ (w.alloc (.cells #[.slice (some ⟨pb,po,none⟩) cnt cap] 31)) (.bool false) (.int .i64 0) (.string ⟨#[]⟩) (.bool false) (.string ⟨#[]⟩) (.int .i64 0) 70
 rw [show (w.alloc (.cells #[.slice (some ⟨pb,po,none⟩) cnt cap] 31)).heap.size=w.heap.size+1 by simp] at hx0
 have X0:=ae hx0
 clear hx0
 go_enter Tryz.func32,Tryz.ntmps32
 go_wp2_with fail
 have P1:=ae (HP.out.below A0.out lr)
 refine (HIV.out _ P1.out.1 P1.out.2 (HT.out.below A0.out HT.out.1)).mono ?_
 rintro e w1 ⟨rfl,hB1⟩
 have c1:w1.cell? ⟨w.heap.size,0,none⟩=some (.slice (some ⟨pb,po,none⟩) cnt cap):=(hB1.cell (p:=⟨w.heap.size,0,none⟩) (by simp;omega)).trans (by simp)
 have X1:=ae (X0.out.below hB1 (by simp))
 have B1:=ae (A0.out.trans (hB1.mono (by simp;omega)))
 have z1:w.heap.size+1<w1.heap.size:=X1.out.1
 clear hB1 A0 X0 P1
 go_wp2_with fail
 refine (HVR.out _ (HY.out.below B1.out lr)).mono ?_
 rintro e w2 ⟨rfl,hB2⟩
 have c2:w2.cell? ⟨w.heap.size,0,none⟩=some (.slice (some ⟨pb,po,none⟩) cnt cap):=(hB2.cell (p:=⟨w.heap.size,0,none⟩) (by simp;omega)).trans c1
 have X2:=ae (X1.out.below hB2 z1)
 have B2:=ae (B1.out.trans (hB2.mono B1.out.size))
 have z2:w.heap.size+1<w2.heap.size:=X2.out.1
 clear hB2 X1 B1 c1 z1
 have HM0:=ae (nO w2 (some ⟨pb,po,none⟩) cnt cap)
 have A2:=ae ((Below.refl w2.heap.size w2).alloc lr (.cells (dr (.slice (some ⟨pb,po,none⟩) cnt cap)) 147))
 have B3:=ae (B2.out.trans (A2.out.mono B2.out.size))
 have X3:=ae (X2.out.below A2.out z2)
 have hb0:w2.heap.size<(w2.alloc (.cells (dr (.slice (some ⟨pb,po,none⟩) cnt cap)) 147)).heap.size:=by simp
 have hwb:w.heap.size≤w2.heap.size:=B2.out.size
 go_wp2_with (first
  | (refine nP rfl 147 #[(1,.tmp 19)] rfl [(1,.slice (some ⟨pb,po,none⟩) cnt cap)] (dr (.slice (some ⟨pb,po,none⟩) cnt cap)) (by simp [Act.eval]) (sE _ _ _) ?_)
  | (refine wpList_store_row rfl 147 (.tmp 5) (.tmp 20) rfl w2.heap.size (dr (.slice (some ⟨pb,po,none⟩) cnt cap)) rfl rfl _ _ (heap_alloc_last _ _) (infoM.trans (by rw [fN])) (by rw [fN];rfl) (lM _ _ _) ?_;rw [World.setRow_alloc_new])
  | fail)
 clear c2 A2 X2 B2
 generalize w2.alloc (.cells (dr (.slice (some ⟨pb,po,none⟩) cnt cap)) 147)=W0 at HM0 B3 X3 hb0 ⊢
 generalize w2.heap.size=b at HM0 z2 hb0 hwb ⊢
 have HE0:Hid (Env W0 b pb po cnt f):=⟨HP.out.below B3.out lr,HT2.out.below B3.out HT2.out.1,HPow.out.below B3.out lr,ll HP.out.1 hwb,ll HT2.out.1 hwb,ll HPow.out.lt hwb⟩
 have HY0:=ae (HY.out.below B3.out lr)
 have hyb:b2<b:=ll HY.out.1 hwb
 have S0:Sim m0 0 0 0 []:=⟨trivial,rfl,by simp,rfl,rfl,rfl,by simp,by omega,by omega,by omega⟩
 obtain ⟨H0,hG0,hC0,hL0⟩:=lg (f:=f) (cnt:=cnt) (y:=y) (n:=n) (m:=m0) rfl S0
 rw [← HTT.out] at hC0
 have HG0:=ae hG0
 have HC0:=ae hC0
 have HL0:=ae hL0
 clear hG0 hC0 hL0 S0 HTT HP HY HT HT2 HPow HIV HVR
 go_loopw [23] (fun i wr=>∃ k:Nat,k≤n∧i=.int .i64 k∧∃ m' H,MAt wr b (.slice (some ⟨pb,po,none⟩) cnt cap) m'∧Only b W0 wr∧Goes f cnt m' H∧cU f cnt y n H=T∧ej k H) (fun i _=>n - (intOf i).toNat)
 case atStart=>exact ⟨0,by omega,rfl,m0,H0,HM0.out,Only.refl _ _,HG0.out,HC0.out,HL0.out⟩
 case round =>
  obtain ⟨k,hk,rfl,m',H,hM,hO,hG,hC,hL⟩:=hrel
  have HM:=ae hM
  have HO:=ae hO
  have HG:=ae hG
  have HC:=ae hC
  have HL:=ae hL
  have hbr:b<wr.heap.size:=hM.lt
  clear hM hO hG hC hL
  by_cases hlt:k<n
  ·obtain ⟨d0,d1,d2⟩:=(HY0.out.2 k hlt).below (HO.out.below lr (Nat.le_of_lt hb0)) hyb
   have HM1:=ae (HM.out.al (.cells #[.bool (y k).has,.int .i64 (y k).code,.string (y k).text] 75))
   have HO1:=ae (HO.out.al (.cells #[.bool (y k).has,.int .i64 (y k).code,.string (y k).text] 75))
   go_wp2_with fail
   refine (jj b pb po cnt cap f m' H _ HM1.out (HE0.out.only hb0 HO1.out) hc2 HV.out HG.out).mono ?_
   rintro e w3 ⟨m2,rfl,hM2,hSt,hO2⟩
   have r0:w3.cell? ⟨wr.heap.size,0,none⟩=some (.bool (y k).has):=(hO2.cell wr.heap.size 0 (by simp) (by omega)).trans (by simp)
   have r1:w3.cell? ⟨wr.heap.size,1,none⟩=some (.int .i64 (y k).code):=(hO2.cell wr.heap.size 1 (by simp) (by omega)).trans (by simp)
   have r2:w3.cell? ⟨wr.heap.size,2,none⟩=some (.string (y k).text):=(hO2.cell wr.heap.size 2 (by simp) (by omega)).trans (by simp)
   have HM2:=ae hM2
   have HO3:=ae (HO1.out.trans hO2)
   have hz3:wr.heap.size<w3.heap.size:=by have:=hO2.size;simp at this;omega
   have HX:=ae (X3.out.only HO3.out (by omega))
   have hx3:w.heap.size+1<w3.heap.size:=HX.out.1
   have HB3:=ae (B3.out.trans (HO3.out.below hwb (Nat.le_trans hwb (Nat.le_of_lt hb0))))
   clear hM2 hO2 HM1 HO1 d0 d1 d2 HM
   rcases H with ⟨c,x,st⟩ | ⟨a,nm,s,p,st,l⟩
   ·have ht:m2.t=dx c x st:=hSt
    have eT:T=dx c x st:=HC.out.symm
    rw [ht]
    have ET:=ae eT
    clear hSt ht eT
    simp only [Turn.v,dx]
    obtain ⟨v0,q0,y0⟩:=HX.out.2 0 (by omega)
    obtain ⟨v1,q1,y1⟩:=HX.out.2 1 (by omega)
    obtain ⟨v2,q2,y2⟩:=HX.out.2 2 (by omega)
    obtain ⟨v3,q3,y3⟩:=HX.out.2 3 (by omega)
    obtain ⟨v4,q4,y4⟩:=HX.out.2 4 (by omega)
    obtain ⟨v5,q5,y5⟩:=HX.out.2 5 (by omega)
    go_wp2
    refine bodyPost_ret (v:=T.v) (by rw [ET.out];simp [results,Tryz.results32,go_sem,Turn.v,dx,hx3,q0,q1,q2,q3,q4,q5]) rfl ⟨rfl,(dk HB3.out (by omega) _ _ _ _ _ _).alloc (dk HB3.out (by omega) _ _ _ _ _ _).size _⟩
   ·obtain ⟨ht,hS,hnm,hl⟩:=hSt
    have el:l=k+1:=HL.out
    subst el
    have ha:m2.t.ask=a:=by rw [ht]
    have hnm2:m2.t.name=nm:=by rw [ht]
    have hs:m2.size<50:=by rw [hS.size];exact hl
    have HS:=ae hS
    have hC:=HC.out
    simp only [cU,Nat.add_sub_cancel] at hC
    rw [if_neg (by omega)] at hC
    have hrk:=nN HR.out hlt
    rw [ht]
    clear hnm hS ht
    simp only [Turn.v]
    cases a with
    | false =>
     rw [if_pos rfl] at hC
     have hCH:=ae hC
     clear hC
     go_wp2_with fail
     refine (kq b (.slice (some ⟨pb,po,none⟩) cnt cap) m2 (y k).has (y k).code (y k).text _ (HM2.out.al _) ha hs).mono ?_
     rintro e w4 ⟨rfl,hM4,hO4⟩
     have HM4:=ae hM4
     have HO4:=ae ((HO3.out.al _).trans hO4)
     clear hM4 hO4
     obtain ⟨H',g1,g2,g3⟩:=lg (f:=f) (cnt:=cnt) (y:=y) (n:=n) rfl (HS.out.push (cY (y k).has) (eX _) hl)
     have HG1:=ae (And.intro g1 (And.intro (g2.trans hCH.out) g3))
     clear g1 g2 g3 ha hnm2 hs hrk
     go_wp2
     exact ⟨⟨k+1,by omega,by go_num,_,H',HM4.out,HO4.out,HG1.out.1,HG1.out.2.1,HG1.out.2.2⟩,by simp [intOf];omega⟩
    | true =>
     rw [if_neg (by simp)] at hC
     by_cases h1:(y k).has=false
     ·rw [if_pos h1] at hC
      have hCH:=ae hC
      rw [h1] at r0
      clear hC
      go_wp2_with fail
      refine (gH b (.slice (some ⟨pb,po,none⟩) cnt cap) m2 (y k).code (y k).text _ (HM2.out.al _) ha).mono ?_
      rintro e w4 ⟨rfl,hM4,hO4⟩
      have HM4:=ae hM4
      have HO4:=ae ((HO3.out.al _).trans hO4)
      clear hM4 hO4
      have hst:dq { m2 with t:=fJ m2 4 } (.inl (4,nm,st)):=by
       show fJ m2 4=_
       simp only [fJ,hnm2,HS.out.hst]
      have HST:=ae hst
      clear hst ha hnm2 hs hrk
      go_wp2
      exact ⟨⟨k+1,by omega,by go_num,_,.inl (4,nm,st),HM4.out,HO4.out,.inr HST.out,hCH.out,trivial⟩,by simp [intOf];omega⟩
     ·rw [if_neg h1] at hC
      have h1':(y k).has=true:=by simpa using h1
      rw [h1'] at r0
      by_cases h2:(y k).code=0
      ·rw [if_pos h2] at hC
       have hCH:=ae hC
       rw [h2] at r1
       clear hC
       go_wp2_with fail
       refine (ku b (.slice (some ⟨pb,po,none⟩) cnt cap) m2 (y k).text _ (HM2.out.al _) ha hs).mono ?_
       rintro e w4 ⟨rfl,hM4,hO4⟩
       have HM4:=ae hM4
       have HO4:=ae ((HO3.out.al _).trans hO4)
       clear hM4 hO4
       obtain ⟨H',g1,g2,g3⟩:=lg (f:=f) (cnt:=cnt) (y:=y) (n:=n) rfl (HS.out.push (y k).text hrk.1 hl)
       have HG1:=ae (And.intro g1 (And.intro (g2.trans hCH.out) g3))
       clear g1 g2 g3 ha hnm2 hs hrk
       go_wp2
       exact ⟨⟨k+1,by omega,by go_num,_,H',HM4.out,HO4.out,HG1.out.1,HG1.out.2.1,HG1.out.2.2⟩,by simp [intOf];omega⟩
      ·rw [if_neg h2] at hC
       have hCH:=ae hC
       have h2':((y k).code == 0)=false:=by simpa using h2
       clear hC
       go_wp2_with fail
       refine (iR b (.slice (some ⟨pb,po,none⟩) cnt cap) m2 (y k).code (y k).text _ (HM2.out.al _) ha h2').mono ?_
       rintro e w4 ⟨rfl,hM4,hO4⟩
       have HM4:=ae hM4
       have HO4:=ae ((HO3.out.al _).trans hO4)
       clear hM4 hO4
       have hst:dq { m2 with t:=fJ m2 5 } (.inl (5,nm,st)):=by
        show fJ m2 5=_
        simp only [fJ,hnm2,HS.out.hst]
       have HST:=ae hst
       clear hst ha hnm2 hs hrk
       go_wp2
       exact ⟨⟨k+1,by omega,by go_num,_,.inl (5,nm,st),HM4.out,HO4.out,.inr HST.out,hCH.out,trivial⟩,by simp [intOf];omega⟩
  ·have e:k=n:=by omega
   subst e
   go_wp2_with fail
   refine (jj b pb po cnt cap f m' H _ HM.out (HE0.out.only hb0 HO.out) hc2 HV.out HG.out).mono ?_
   rintro e w3 ⟨m2,rfl,hM2,hSt,hO2⟩
   have HO3:=ae (HO.out.trans hO2)
   have HX:=ae (X3.out.only HO3.out (by omega))
   have hx3:w.heap.size+1<w3.heap.size:=HX.out.1
   have HB3:=ae (B3.out.trans (HO3.out.below hwb (Nat.le_trans hwb (Nat.le_of_lt hb0))))
   have eT:m2.t=T:=by
    have hC:=HC.out
    rcases H with ⟨c,x,st⟩ | ⟨a,nm,s,p,st,l⟩
    ·exact (show m2.t=dx c x st from hSt).trans hC
    ·have el:l=k+1:=HL.out
     subst el
     simp only [cU,Nat.add_sub_cancel] at hC
     rw [if_pos lr ] at hC
     exact hSt.1.trans hC
   rw [eT]
   clear hM2 hO2 hSt eT HC HL HG HM
   simp only [Turn.v]
   obtain ⟨v0,q0,y0⟩:=HX.out.2 0 (by omega)
   obtain ⟨v1,q1,y1⟩:=HX.out.2 1 (by omega)
   obtain ⟨v2,q2,y2⟩:=HX.out.2 2 (by omega)
   obtain ⟨v3,q3,y3⟩:=HX.out.2 3 (by omega)
   obtain ⟨v4,q4,y4⟩:=HX.out.2 4 (by omega)
   obtain ⟨v5,q5,y5⟩:=HX.out.2 5 (by omega)
   go_wp2
   refine bodyPost_ret (v:=T.v) (by simp [results,Tryz.results32,go_sem,Turn.v,q0,q1,q2,q3,q4,q5]) rfl ⟨rfl,dk HB3.out (by omega) _ _ _ _ _ _⟩
theorem nS (pb po cnt cap n cap2:Nat)(a2:Option Addr)(f:Nat→Ins)(w:World)(hn:cnt≤1048576)(hv:valid f cnt=false)(hP:RowIns w pb po cnt f)(hT:Tab w) :
  Calls Tryz.prog 32 #[.agg #[.slice (some ⟨pb,po,none⟩) cnt cap],.slice a2 n cap2] w fun e w'=>e=.returned badT.v∧Below w.heap.size w w':=by
 have IV:=fun w' h1 h2 h3=>eD pb po cnt cap f w' hn h1 h2 h3
 rw [hv] at IV
 have HIV:=ae IV
 have HP:=ae hP
 have HT:=ae hT
 clear IV hP hT hv
 have A0:=ae ((((Below.refl w.heap.size w).alloc lr (.cells #[.slice (some ⟨pb,po,none⟩) cnt cap] 31))).alloc (by simp) (.cells #[.bool false,.int .i64 0,.string ⟨#[]⟩,.bool false,.string ⟨#[]⟩,.int .i64 0] 70))
 have hx0:=eJ (w.alloc (.cells #[.slice (some ⟨pb,po,none⟩) cnt cap] 31)) (.bool false) (.int .i64 0) (.string ⟨#[]⟩) (.bool false) (.string ⟨#[]⟩) (.int .i64 0) 70
 rw [show (w.alloc (.cells #[.slice (some ⟨pb,po,none⟩) cnt cap] 31)).heap.size=w.heap.size+1 by simp] at hx0
 have X0:=ae hx0
 clear hx0
 go_enter Tryz.func32,Tryz.ntmps32
 go_wp2_with fail
 have P1:=ae (HP.out.below A0.out lr)
 refine (HIV.out _ P1.out.1 P1.out.2 (HT.out.below A0.out HT.out.1)).mono ?_
 rintro e w1 ⟨rfl,hB1⟩
 have HX:=ae (X0.out.below hB1 (by simp))
 have B1:=ae (A0.out.trans (hB1.mono (by simp;omega)))
 clear hB1 A0 X0 P1
 obtain ⟨v0,q0,y0⟩:=HX.out.2 0 (by omega)
 obtain ⟨v1,q1,y1⟩:=HX.out.2 1 (by omega)
 obtain ⟨v2,q2,y2⟩:=HX.out.2 2 (by omega)
 obtain ⟨v3,q3,y3⟩:=HX.out.2 3 (by omega)
 obtain ⟨v4,q4,y4⟩:=HX.out.2 4 (by omega)
 obtain ⟨v5,q5,y5⟩:=HX.out.2 5 (by omega)
 go_wp2
 refine bodyPost_ret (v:=badT.v) (by simp [results,Tryz.results32,go_sem,Turn.v,badT,q0,q1,q2,q3,q4,q5]) rfl ⟨rfl,dk B1.out (by omega) _ _ _ _ _ _⟩
theorem iT (pb po cnt cap n cap2:Nat)(a2:Option Addr)(f:Nat→Ins)(w:World)(hn:cnt≤1048576)(hv:valid f cnt=true)(hP:RowIns w pb po cnt f)(hT:Tab w)
  (hVR:∀ w',Below w.heap.size w w'→Calls Tryz.prog 105 #[.slice a2 n cap2] w' fun e w''=>e=.returned (.bool false)∧Below w'.heap.size w' w'') :
  Calls Tryz.prog 32 #[.agg #[.slice (some ⟨pb,po,none⟩) cnt cap],.slice a2 n cap2] w fun e w'=>e=.returned badT.v∧Below w.heap.size w w':=by
 have IV:=fun w' h1 h2 h3=>eD pb po cnt cap f w' hn h1 h2 h3
 rw [hv] at IV
 have HIV:=ae IV
 have HVR:=ae hVR
 have HP:=ae hP
 have HT:=ae hT
 clear IV hP hT hv hVR
 have A0:=ae ((((Below.refl w.heap.size w).alloc lr (.cells #[.slice (some ⟨pb,po,none⟩) cnt cap] 31))).alloc (by simp) (.cells #[.bool false,.int .i64 0,.string ⟨#[]⟩,.bool false,.string ⟨#[]⟩,.int .i64 0] 70))
 have hx0:=eJ (w.alloc (.cells #[.slice (some ⟨pb,po,none⟩) cnt cap] 31)) (.bool false) (.int .i64 0) (.string ⟨#[]⟩) (.bool false) (.string ⟨#[]⟩) (.int .i64 0) 70
 rw [show (w.alloc (.cells #[.slice (some ⟨pb,po,none⟩) cnt cap] 31)).heap.size=w.heap.size+1 by simp] at hx0
 have X0:=ae hx0
 clear hx0
 go_enter Tryz.func32,Tryz.ntmps32
 go_wp2_with fail
 have P1:=ae (HP.out.below A0.out lr)
 refine (HIV.out _ P1.out.1 P1.out.2 (HT.out.below A0.out HT.out.1)).mono ?_
 rintro e w1 ⟨rfl,hB1⟩
 have X1:=ae (X0.out.below hB1 (by simp))
 have B0:=ae (A0.out.trans (hB1.mono (by simp;omega)))
 clear hB1 A0 X0 P1
 go_wp2_with fail
 refine (HVR.out _ B0.out).mono ?_
 rintro e w2 ⟨rfl,hB2⟩
 have HX:=ae (X1.out.below hB2 X1.out.1)
 have B1:=ae (B0.out.trans (hB2.mono B0.out.size))
 clear hB2 X1 B0
 obtain ⟨v0,q0,y0⟩:=HX.out.2 0 (by omega)
 obtain ⟨v1,q1,y1⟩:=HX.out.2 1 (by omega)
 obtain ⟨v2,q2,y2⟩:=HX.out.2 2 (by omega)
 obtain ⟨v3,q3,y3⟩:=HX.out.2 3 (by omega)
 obtain ⟨v4,q4,y4⟩:=HX.out.2 4 (by omega)
 obtain ⟨v5,q5,y5⟩:=HX.out.2 5 (by omega)
 go_wp2
 refine bodyPost_ret (v:=badT.v) (by simp [results,Tryz.results32,go_sem,Turn.v,badT,q0,q1,q2,q3,q4,q5]) rfl ⟨rfl,dk B1.out (by omega) _ _ _ _ _ _⟩
theorem iU (pb po cnt cap b2 o2 n cap2:Nat)(f:Nat→Ins)(y:Nat→aw)(w:World)(hn:cnt≤1048576)(hP:RowIns w pb po cnt f)(hY:RowReply w b2 o2 n y)(hT:Tab w)(hT2:Tab2 w)(hPow:Pow w) :
  Calls Tryz.prog 32 #[.agg #[.slice (some ⟨pb,po,none⟩) cnt cap],.slice (some ⟨b2,o2,none⟩) n cap2] w fun e w'=>e=.returned (fu f cnt y n).v∧Below w.heap.size w w':=by
 unfold fu
 by_cases h1:valid f cnt=false
 ·rw [if_pos h1]
  exact nS pb po cnt cap n cap2 _ f w hn h1 hP hT
 ·have h1':valid f cnt=true:=by simpa using h1
  rw [if_neg h1]
  by_cases h2:200<n
  ·rw [if_pos h2]
   exact iT pb po cnt cap n cap2 _ f w hn h1' hP hT (fun w' _=>kw _ n cap2 w' (by omega))
  ·rw [if_neg h2]
   by_cases h3:aZ y n=false
   ·rw [if_pos h3]
    exact iT pb po cnt cap n cap2 _ f w hn h1' hP hT (fun w' hB=>(fZ b2 o2 n cap2 y w' (by omega) (hY.below hB lr)).mono (fun e w'' ⟨p,q⟩=>⟨by rw [p,h3],q⟩))
   ·rw [if_neg h3]
    exact oZ pb po cnt cap b2 o2 n cap2 f y w h1' (by omega) (by simpa using h3) hP hY hT hT2 hPow
end Go.Proofs.YtkophfgkcijjkaaGreatDoor.Vp
