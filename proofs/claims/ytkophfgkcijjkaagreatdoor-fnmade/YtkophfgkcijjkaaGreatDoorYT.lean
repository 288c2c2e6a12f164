import Derived.Test.YtkophfgkcijjkaaGreatDoorYQ
import Derived.WalkSmall
set_option maxRecDepth 1000000
set_option maxHeartbeats 8000000
namespace Go.Proofs.YtkophfgkcijjkaaGreatDoor.Vp
open RowKit
theorem oB:∀ (L:List SM) (k j:Nat) (m m':SM) (u:Value),L[k]?=some m→j<6→smV m'=(smV m).set j u→(L.flatMap smV).set (k*6+j) u=(L.set k m').flatMap smV
 | [],k,j,m,m',u,h,_,_=>by simp at h
 | a :: L,0,j,m,m',u,h,hj,he=>by
  simp only [List.getElem?_cons_zero,Option.some.injEq] at h
  subst h
  simp only [List.flatMap_cons,List.set_cons_zero,Nat.zero_mul,Nat.zero_add]
  rw [List.set_append_left _ _ (by rw [jo];exact hj),he]
 | a :: L,k+1,j,m,m',u,h,hj,he=>by
  simp only [List.getElem?_cons_succ] at h
  simp only [List.flatMap_cons,List.set_cons_succ]
  rw [List.set_append_right _ _ (by rw [jo];omega),jo,show (k+1)*6+j - 6=k*6+j by omega,oB L k j m m' u h hj he]
theorem rI {w:World}{base size n g cap j:Nat}{e:TypeId}{xs:List Value}(h:w.ownsRow base e size (.slice (some ⟨g,0,none⟩) n cap) n xs)(u:Value):(w.setCell ⟨g,j,none⟩ u).ownsRow base e size (.slice (some ⟨g,0,none⟩) n cap) n (xs.set j u):=by
 refine ⟨by rw [List.length_set];exact h.1,?_⟩
 rcases h.2 with ⟨hv,h0⟩ | ⟨g',cap',cur,hv,hb,hg,h1,h2,h3,h4⟩
 ·simp at hv
 ·simp only [Value.slice.injEq,Option.some.injEq,Addr.mk.injEq] at hv
  obtain ⟨⟨rfl,-⟩,-,rfl⟩:=hv
  refine .inr ⟨g,cap,cur.setIfInBounds j u,rfl,hb,an hg u,h1,h2,by simpa using h3,?_⟩
  rw [Array.toList_setIfInBounds,List.take_set,h4]
section
variable {w0 w w':World}{hb:Nat}{s0 s1 md or st:Value}{making:List ByteArray}{made:List Ent}{L:List SM}
theorem SI.upd {g cap k j:Nat}{m m':SM}{u:Value}(h:SI w0 hb s0 s1 w making made L (.slice (some ⟨g,0,none⟩) L.length cap) or st)(hm:L[k]?=some m)(hj:j<6)(he:smV m'=(smV m).set j u)(hs:m'.done=true→w.ownsRow w0.heap.size 239 3 m'.sv m'.seen.length (da m'.seen)) :
  SI w0 hb s0 s1 (w.setCell ⟨g,k*6+j,none⟩ u) making made (L.set k m') (.slice (some ⟨g,0,none⟩) (L.set k m').length cap) or st∧KS w0.heap.size XN w (w.setCell ⟨g,k*6+j,none⟩ u):=by
 obtain ⟨hgB,hgl,cs,hc⟩:=af h.rmd g rfl
 have hrow:∀ {size n:Nat} {t':TypeId} {u':Value} {ys:List Value},w.ownsRow w0.heap.size t' size u' n ys→236≠t'→(w.setCell ⟨g,k*6+j,none⟩ u).ownsRow w0.heap.size t' size u' n ys:=fun hr hte=>ar hr (fun e=>by
  obtain ⟨_,_,cs2,hc2⟩:=af hr g e
  exact hte (ah hc hc2)) _ _
 have hl:(L.set k m').length=L.length:=List.length_set
 refine ⟨⟨h.bel.setCell hgB u,h.hbB,?_,?_,hrow h.ror (by decide),hrow h.rst (by decide),h.apart,fun x hx hd=>?_⟩,KS.setCell w hgB (.inr fun cs2 t fz hc2=>.inr (.inl (ah hc2 hc))) u⟩
 ·rw [hl]
  exact h.box.blk (Below.heap_setCell _ _ _ _ fun e=>by
   have e2:hb=g:=e
   exact absurd (ah h.box (e2 ▸ hc)) (by decide))
 ·rw [hl,← oB L k j m m' u hm hj he]
  exact rI h.rmd u
 ·rcases List.mem_or_eq_of_mem_set hx with hx | rfl
  ·exact hrow (h.seen x hx hd) (by decide)
  ·exact hrow (hs hd) (by decide)
theorem SI.addL {m:SM}{v:Value}(h:SI w0 hb s0 s1 w making made L md or st)(hg:w.grownBy w' md.ownBlock)(hr:w'.ownsRow w0.heap.size 236 6 v (L.length+1) (L.flatMap smV++smV m))(hd:m.done=false):SI w0 hb s0 s1 (w'.setCell ⟨hb,2,none⟩ v) making made (L++[m]) v or st∧KS w0.heap.size XN w (w'.setCell ⟨hb,2,none⟩ v):=by
 have hmk:=af h.rmd
 have hk:KS w0.heap.size XN w w':=KS.of_grown hg h.lt fun j hj=>by
  obtain ⟨h1,_,cs,h2⟩:=hmk j hj
  exact ⟨h1,.inr fun cs t fz hc=>.inr (.inl (ah hc h2))⟩
 have hblT:∀ (i:Nat) (cs:Array Value) (t:TypeId) (fz:Nat × Nat),w.heap[i]?=some (Obj.cells cs t fz)→t≠236→w'.heap[i]?=w.heap[i]?:=fun i cs t fz hi ht=>hg.block i (ai hi) fun e=>by
  obtain ⟨_,_,cs2,h2⟩:=hmk i e.symm
  exact ht (ah hi h2)
 have hbox:ShBox w' hb s0 s1 md or st 0 ⟨#[]⟩ (.slice none 0 0) false:=h.box.blk (hblT _ _ _ _ h.box (by decide))
 have hrow:∀ {size n:Nat} {t':TypeId} {u':Value} {ys:List Value},w.ownsRow w0.heap.size t' size u' n ys→t'≠236→125≠t'→(w'.setCell ⟨hb,2,none⟩ v).ownsRow w0.heap.size t' size u' n ys:=fun hr2 hte ht2=>by
  have h3:=bg (w':=w') hr2 fun k hk2=>by
   obtain ⟨_,_,cs,hc⟩:=af hr2 k hk2
   exact hblT _ _ _ _ hc hte
  exact ar h3 (fun e=>by
   obtain ⟨_,_,cs2,hc2⟩:=af h3 hb e
   exact ht2 (ah hbox hc2)) _ _
 have hnew:(w'.setCell ⟨hb,2,none⟩ v).ownsRow w0.heap.size 236 6 v (L.length+1) (L.flatMap smV++smV m):=ar hr (fun e=>by
  obtain ⟨_,_,cs2,hc2⟩:=af hr hb e
  exact absurd (ah hbox hc2) (by decide)) _ _
 have hk2:KS w0.heap.size XN w' (w'.setCell ⟨hb,2,none⟩ v):=KS.setCell w' h.hbB (.inr fun cs t fz hc=>.inr (.inr (ah hc hbox))) v
 refine ⟨⟨h.bel.trans (hk.to hk2).below,h.hbB,an hbox v,(by rw [List.length_append,List.length_singleton,List.flatMap_append,List.flatMap_singleton];exact hnew),hrow h.ror (by decide) (by decide),hrow h.rst (by decide) (by decide),h.apart,fun x hx hd2=>?_⟩,hk.to hk2⟩
 rcases List.mem_append.1 hx with hx | hx
 ·exact hrow (h.seen x hx hd2) (by decide) (by decide)
 ·rw [List.mem_singleton.1 hx,hd] at hd2
  cases hd2
theorem SI.ord {x:Ent}{v:Value}(h:SI w0 hb s0 s1 w making made L md or st)(hg:w.grownBy w' or.ownBlock)(hr:w'.ownsRow w0.heap.size 9 1 v (made.length+1) (aU (made.map (·.name))++[.string x.name]))(hat:v.ownBlock=or.ownBlock∨v.ownBlock=some w.heap.size):SI w0 hb s0 s1 (w'.setCell ⟨hb,3,none⟩ v) making (made++[x]) L md v st∧KS w0.heap.size XN w (w'.setCell ⟨hb,3,none⟩ v):=by
 have hmk:=af h.ror
 have hk:KS w0.heap.size XN w w':=KS.of_grown hg h.lt fun j hj=>by
  obtain ⟨h1,_,cs,h2⟩:=hmk j hj
  exact ⟨h1,.inr fun cs t fz hc=>.inl (ah hc h2)⟩
 have hblT:∀ (i:Nat) (cs:Array Value) (t:TypeId) (fz:Nat × Nat),w.heap[i]?=some (Obj.cells cs t fz)→t≠9→w'.heap[i]?=w.heap[i]?:=fun i cs t fz hi ht=>hg.block i (ai hi) fun e=>by
  obtain ⟨_,_,cs2,h2⟩:=hmk i e.symm
  exact ht (ah hi h2)
 have hbox:ShBox w' hb s0 s1 md or st 0 ⟨#[]⟩ (.slice none 0 0) false:=h.box.blk (hblT _ _ _ _ h.box (by decide))
 have hrow:∀ {size n:Nat} {t':TypeId} {u':Value} {ys:List Value},w.ownsRow w0.heap.size t' size u' n ys→t'≠9→125≠t'→(w'.setCell ⟨hb,3,none⟩ v).ownsRow w0.heap.size t' size u' n ys:=fun hr2 hte ht2=>by
  have h3:=bg (w':=w') hr2 fun k hk2=>by
   obtain ⟨_,_,cs,hc⟩:=af hr2 k hk2
   exact hblT _ _ _ _ hc hte
  exact ar h3 (fun e=>by
   obtain ⟨_,_,cs2,hc2⟩:=af h3 hb e
   exact ht2 (ah hbox hc2)) _ _
 have hnew:(w'.setCell ⟨hb,3,none⟩ v).ownsRow w0.heap.size 9 1 v (made.length+1) (aU (made.map (·.name))++[.string x.name]):=ar hr (fun e=>by
  obtain ⟨_,_,cs2,hc2⟩:=af hr hb e
  exact absurd (ah hbox hc2) (by decide)) _ _
 have hk2:KS w0.heap.size XN w' (w'.setCell ⟨hb,3,none⟩ v):=KS.setCell w' h.hbB (.inr fun cs t fz hc=>.inr (.inr (ah hc hbox))) v
 refine ⟨⟨h.bel.trans (hk.to hk2).below,h.hbB,an hbox v,hrow h.rmd (by decide) (by decide),(by rw [List.length_append,List.length_singleton];simpa [aU] using hnew),?_,fun k hk3=>?_,fun x hx hd2=>hrow (h.seen x hx hd2) (by decide) (by decide)⟩,hk.to hk2⟩
 ·have h3:w'.ownsRow w0.heap.size 9 1 st making.length (aU making):=bg h.rst fun k hk2=>by
   obtain ⟨_,hl,cs,hc⟩:=af h.rst k hk2
   exact hg.block k hl fun e=>h.apart k e.symm hk2
  exact ar h3 (fun e=>by
   obtain ⟨_,_,cs2,hc2⟩:=af h3 hb e
   exact absurd (ah hbox hc2) (by decide)) _ _
 ·intro e
  rcases hat with a | a
  ·exact h.apart k (by rw [← a];exact hk3) e
  ·rw [a] at hk3
   cases hk3
   have:=(af h.rst _ e).2.1
   omega
theorem SI.push {nm:ByteArray}{v:Value}(h:SI w0 hb s0 s1 w making made L md or st)(hg:w.grownBy w' st.ownBlock)(hr:w'.ownsRow w0.heap.size 9 1 v (making.length+1) (aU making++[.string nm]))(hat:v.ownBlock=st.ownBlock∨v.ownBlock=some w.heap.size):SI w0 hb s0 s1 (w'.setCell ⟨hb,4,none⟩ v) (making++[nm]) made L md or v∧KS w0.heap.size XN w (w'.setCell ⟨hb,4,none⟩ v):=by
 have hmk:=af h.rst
 have hk:KS w0.heap.size XN w w':=KS.of_grown hg h.lt fun j hj=>by
  obtain ⟨h1,_,cs,h2⟩:=hmk j hj
  exact ⟨h1,.inr fun cs t fz hc=>.inl (ah hc h2)⟩
 have hblT:∀ (i:Nat) (cs:Array Value) (t:TypeId) (fz:Nat × Nat),w.heap[i]?=some (Obj.cells cs t fz)→t≠9→w'.heap[i]?=w.heap[i]?:=fun i cs t fz hi ht=>hg.block i (ai hi) fun e=>by
  obtain ⟨_,_,cs2,h2⟩:=hmk i e.symm
  exact ht (ah hi h2)
 have hbox:ShBox w' hb s0 s1 md or st 0 ⟨#[]⟩ (.slice none 0 0) false:=h.box.blk (hblT _ _ _ _ h.box (by decide))
 have hrow:∀ {size n:Nat} {t':TypeId} {u':Value} {ys:List Value},w.ownsRow w0.heap.size t' size u' n ys→t'≠9→125≠t'→(w'.setCell ⟨hb,4,none⟩ v).ownsRow w0.heap.size t' size u' n ys:=fun hr2 hte ht2=>by
  have h3:=bg (w':=w') hr2 fun k hk2=>by
   obtain ⟨_,_,cs,hc⟩:=af hr2 k hk2
   exact hblT _ _ _ _ hc hte
  exact ar h3 (fun e=>by
   obtain ⟨_,_,cs2,hc2⟩:=af h3 hb e
   exact ht2 (ah hbox hc2)) _ _
 have hnew:(w'.setCell ⟨hb,4,none⟩ v).ownsRow w0.heap.size 9 1 v (making.length+1) (aU making++[.string nm]):=ar hr (fun e=>by
  obtain ⟨_,_,cs2,hc2⟩:=af hr hb e
  exact absurd (ah hbox hc2) (by decide)) _ _
 have hk2:KS w0.heap.size XN w' (w'.setCell ⟨hb,4,none⟩ v):=KS.setCell w' h.hbB (.inr fun cs t fz hc=>.inr (.inr (ah hc hbox))) v
 refine ⟨⟨h.bel.trans (hk.to hk2).below,h.hbB,an hbox v,hrow h.rmd (by decide) (by decide),?_,(by rw [List.length_append,List.length_singleton];simpa [aU] using hnew),fun k hk3=>?_,fun x hx hd2=>hrow (h.seen x hx hd2) (by decide) (by decide)⟩,hk.to hk2⟩
 ·have h3:w'.ownsRow w0.heap.size 9 1 or made.length (aU (made.map (·.name))):=bg h.ror fun k hk2=>by
   obtain ⟨_,hl,cs,hc⟩:=af h.ror k hk2
   exact hg.block k hl fun e=>h.apart k hk2 e.symm
  exact ar h3 (fun e=>by
   obtain ⟨_,_,cs2,hc2⟩:=af h3 hb e
   exact absurd (ah hbox hc2) (by decide)) _ _
 ·intro e
  rcases hat with a | a
  ·exact h.apart k hk3 (by rw [← a];exact e)
  ·rw [a] at e
   cases e
   have:=(af h.ror _ hk3).2.1
   omega
theorem SI.pop {nm:ByteArray}{g cap:Nat}(h:SI w0 hb s0 s1 w (making++[nm]) made L md or (.slice (some ⟨g,0,none⟩) (making.length+1) cap)):SI w0 hb s0 s1 (w.setCell ⟨hb,4,none⟩ (.slice (some ⟨g,0,none⟩) making.length cap)) making made L md or (.slice (some ⟨g,0,none⟩) making.length cap)∧KS w0.heap.size XN w (w.setCell ⟨hb,4,none⟩ (.slice (some ⟨g,0,none⟩) making.length cap)):=by
 have hrow:∀ {size n:Nat} {t':TypeId} {u':Value} {ys:List Value},w.ownsRow w0.heap.size t' size u' n ys→125≠t'→(w.setCell ⟨hb,4,none⟩ (.slice (some ⟨g,0,none⟩) making.length cap)).ownsRow w0.heap.size t' size u' n ys:=fun hr2 ht2=>ar hr2 (fun e=>by
  obtain ⟨_,_,cs2,hc2⟩:=af hr2 hb e
  exact ht2 (ah h.box hc2)) _ _
 have hst:=h.rst
 rw [List.length_append,List.length_singleton] at hst
 refine ⟨⟨h.bel.setCell h.hbB _,h.hbB,an h.box _,hrow h.rmd (by decide),hrow h.ror (by decide),hrow (ownsRow_pop (last:=[.string nm]) (by simp [aU]) (by simpa [aU] using hst)) (by decide),h.apart,fun x hx hd=>hrow (h.seen x hx hd) (by decide)⟩,KS.setCell w h.hbB (.inr fun cs t fz hc=>.inr (.inr (ah hc h.box))) _⟩
end
theorem pU {L:List SM}(h:L.Pairwise fun m m'=>m.name≠m'.name){i j:Nat}{m m':SM}(hi:L[i]?=some m)(hj:L[j]?=some m')(e:m.name=m'.name):i=j:=by
 rw [List.pairwise_iff_getElem] at h
 obtain ⟨hi1,hi2⟩:=List.getElem?_eq_some_iff.1 hi
 obtain ⟨hj1,hj2⟩:=List.getElem?_eq_some_iff.1 hj
 rcases Nat.lt_trichotomy i j with hlt | heq | hgt
 ·exact absurd (by rw [hi2,hj2];exact e) (h i j hi1 hj1 hlt)
 ·exact heq
 ·exact absurd (by rw [hi2,hj2];exact e.symm) (h j i hj1 hi1 hgt)
theorem pV {L:List SM}(hn:L.Pairwise fun m m'=>m.name≠m'.name){m:SM}(hm:m∈L){nm:ByteArray}(e:m.name=nm):∃ k,fI L nm=some k∧L[k]?=some m:=by
 obtain ⟨k,hk⟩:=List.getElem?_of_mem hm
 refine ⟨k,ot hk (by rw [e];simp) fun j m2 hj hm2=>?_,hk⟩
 cases h:(m2.name.toList == nm.toList) with
 | false=>rfl
 | true =>
  have:=pU hn hm2 hk (by rw [bytes_beq h,e])
  omega
section
variable {L:List SM}{making:List ByteArray}{made:List Ent}{nm:ByteArray}
theorem vX (h:ep L making made){e:Ent}(he:aA made nm=some e):∃ k m,fI L nm=some k∧L[k]?=some m∧m.done=true∧m.code=(bV e).code∧m.text=(bV e).text:=by
 obtain ⟨h1,h2⟩:=fP he
 obtain ⟨m,hm,e1,e2,e3,e4,_⟩:=h.got e h1
 obtain ⟨k,k1,k2⟩:=pV h.nod hm (e1.trans h2)
 exact ⟨k,m,k1,k2,e2,e3,e4⟩
theorem vY (h:ep L making made){i:Nat}(hi:atL making nm=some i):∃ k m,fI L nm=some k∧L[k]?=some m∧m.done=false∧nm∈making:=by
 have hi2:=hi
 unfold atL at hi2
 obtain ⟨hlt,h1,_⟩:=List.findIdx?_eq_some_iff_getElem.1 hi2
 have hmem:nm∈making:=by rw [← bytes_beq h1];exact List.getElem_mem hlt
 obtain ⟨m,hm,e1,e2⟩:=h.mkg nm hmem
 obtain ⟨k,k1,k2⟩:=pV h.nod hm e1
 exact ⟨k,m,k1,k2,e2,hmem⟩
theorem tz (h:ep L making made)(h0:aA made nm=none)(h1:atL making nm=none):fI L nm=none∧∀ m∈L,m.name≠nm:=by
 have hne:∀ m∈L,m.name≠nm:=fun m hm e=>by
  rcases h.all m hm with ⟨x,hx,e2⟩ | h2
  ·exact cK h0 x hx (e2.trans e)
  ·exact gb h1 _ h2 e
 refine ⟨pM fun j m hj hm=>?_,hne⟩
 cases h2:(m.name.toList == nm.toList) with
 | false=>rfl
 | true=>exact absurd (bytes_beq h2) (hne m (List.mem_of_getElem? hm))
theorem me (h:ep L making made)(hne:∀ m∈L,m.name≠nm){m:SM}(hm:m.name=nm)(hd:m.done=false):ep (L++[m]) (making++[nm]) made:=by
 refine ⟨?_,by simp [h.len];omega,fun x hx=>?_,fun t ht=>?_,fun y hy=>?_⟩
 ·rw [List.pairwise_append]
  exact ⟨h.nod,List.pairwise_singleton _ _,fun a ha b hb=>by rw [List.mem_singleton.1 hb,hm];exact hne a ha⟩
 ·obtain ⟨y,hy,r⟩:=h.got x hx
  exact ⟨y,List.mem_append_left _ hy,r⟩
 ·rcases List.mem_append.1 ht with ht | ht
  ·obtain ⟨y,hy,r⟩:=h.mkg t ht
   exact ⟨y,List.mem_append_left _ hy,r⟩
  ·exact ⟨m,List.mem_append_right _ (List.mem_singleton.2 rfl),by rw [hm,List.mem_singleton.1 ht],hd⟩
 ·rcases List.mem_append.1 hy with hy | hy
  ·exact (h.all y hy).imp id fun h=>List.mem_append_left _ h
  ·rw [List.mem_singleton.1 hy,hm]
   exact .inr (List.mem_append_right _ (List.mem_singleton.2 rfl))
theorem pW {made1:List Ent}{k:Nat}{m m':SM}{x:Ent}(h:ep L (making++[nm]) made1)(hk:L[k]?=some m)(hm:m.name=nm)(hm':m'.name=nm)(hx:x.name=nm)(hd:m'.done=true)(hc:m'.code=(bV x).code)(ht:m'.text=(bV x).text)(hs:m'.seen=x.looks)(h0:∀ y∈made1,y.name≠nm)(h1:atL making nm=none):ep (L.set k m') making (made1++[x]):=by
 have hkl:=(List.getElem?_eq_some_iff.1 hk).1
 have hkg:=(List.getElem?_eq_some_iff.1 hk).2
 have hget:∀ y∈L,y.name≠nm→y∈L.set k m':=fun y hy hne=>by
  obtain ⟨i,hi⟩:=List.getElem?_of_mem hy
  refine List.mem_of_getElem? (i:=i) ?_
  rw [List.getElem?_set_ne fun e=>?_]
  ·exact hi
  ·subst e
   rw [hk] at hi
   cases hi
   exact hne hm
 have hnew:m'∈L.set k m':=List.mem_of_getElem? (List.getElem?_set_self hkl)
 refine ⟨?_,by rw [List.length_set,h.len];simp;omega,fun y hy=>?_,fun t ht2=>?_,fun y hy=>?_⟩
 ·have hnod:=h.nod
  rw [List.pairwise_iff_getElem] at hnod ⊢
  have hnm:∀ (i:Nat) (hi:i<(L.set k m').length),(L.set k m')[i].name=(L[i]'(by simpa using hi)).name:=fun i hi=>by
   rw [List.getElem_set]
   split
   ·rename_i e;subst e;rw [hkg,hm,hm']
   ·rfl
  intro i j hi hj hij
  rw [hnm i hi,hnm j hj]
  exact hnod i j (by simpa using hi) (by simpa using hj) hij
 ·rcases List.mem_append.1 hy with hy | hy
  ·obtain ⟨z,hz,e1,r⟩:=h.got y hy
   exact ⟨z,hget z hz (by rw [e1];exact h0 y hy),e1,r⟩
  ·rw [List.mem_singleton.1 hy]
   exact ⟨m',hnew,by rw [hm',hx],hd,hc,ht,hs⟩
 ·obtain ⟨z,hz,e1,r⟩:=h.mkg t (List.mem_append_left _ ht2)
  exact ⟨z,hget z hz (by rw [e1];exact gb h1 t ht2),e1,r⟩
 ·rcases List.mem_or_eq_of_mem_set hy with hy2 | rfl
  ·rcases h.all y hy2 with ⟨z,hz,e⟩ | h2
   ·exact .inl ⟨z,List.mem_append_left _ hz,e⟩
   ·rcases List.mem_append.1 h2 with h2 | h2
    ·exact .inr h2
    ·exact .inl ⟨x,List.mem_append_right _ (List.mem_singleton.2 rfl),by rw [hx,List.mem_singleton.1 h2]⟩
  ·exact .inl ⟨x,List.mem_append_right _ (List.mem_singleton.2 rfl),by rw [hx,hm']⟩
end
theorem pm {S:Spc}(h:SpcOk S){nm:ByteArray}{i:Nat}(hi:atI (nm0 S.f0) S.n0 nm=some i):atI (nm1 S.f1) S.n1 nm=none:=by
 have hc:=h.chk
 unfold bX at hc
 split at hc;· omega
 split at hc;· omega
 split at hc;· omega
 split at hc;· omega
 split at hc;· omega
 split at hc;· omega
 rename_i h5
 obtain ⟨h1,h2⟩:=aR hi
 have:=jJ (Bool.eq_false_iff.2 h5) h1
 rw [h2] at this
 exact oq this
end Go.Proofs.YtkophfgkcijjkaaGreatDoor.Vp
namespace Go.Proofs.YtkophfgkcijjkaaGreatDoor.Vp
open RowKit Ca
section
variable {w0:World}{S:Spc}{a0 a1:Option Addr}{c0 c1 hb:Nat}{md or st:Value}{making:List ByteArray}{made:List Ent}{L:List SM}
theorem uS (w:World)(nm:ByteArray)(h:SI w0 hb (.slice a0 S.n0 c0) (.slice a1 S.n1 c1) w making made L md or st)(hLn:L.length≤100000)(k:Nat)(m:SM)(h1:fI L nm=some k)(h2:L[k]?=some m)(hd:m.done=true) :
  Calls Tryz.prog 155 #[.pointer (some ⟨hb,0,none⟩),.string nm] w fun e w'=>e=.returned (.agg #[.int .i64 m.code,.string m.text,.slice none 0 0])∧SI w0 hb (.slice a0 S.n0 c0) (.slice a1 S.n1 c1) w' making made L md or st∧KS w0.heap.size XN w w':=by
 have A0:=ae ((Below.refl w.heap.size w).alloc lr (.cells #[.int .i64 0,.string ⟨#[]⟩,.slice none 0 0] 41))
 have kr:Hid ((w.alloc (.cells #[.int .i64 0,.string ⟨#[]⟩,.slice none 0 0] 41)).heap[w.heap.size]?=some (.cells #[.int .i64 0,.string ⟨#[]⟩,.slice none 0 0] 41 (0,0))):=heap_alloc_new _ _
 have S0:=ae (h.below A0.out lr)
 have hB0:w0.heap.size≤w.heap.size:=h.lt
 have hkl:=(List.getElem?_eq_some_iff.1 h2).1
 obtain ⟨g,cap,cur,rfl,-⟩:=h.rmd.2.resolve_left (fun h=>by omega)
 have e1:cE (fI L nm)=(k:Int):=by rw [h1];rfl
 have H2:=ae h2
 obtain ⟨n,hn⟩:∃ n,n=L.length:=⟨_,rfl⟩
 have HN:=ae hn
 have hkn:k<n:=by omega
 clear h h1 h2 hn
 go_enter Tryz.func155,Tryz.ntmps155
 go_wp2_with fail
 generalize w.alloc (.cells #[.int .i64 0,.string ⟨#[]⟩,.slice none 0 0] 41)=W0 at A0 kr S0 ⊢
 refine (fo W0 nm S0.out hLn).mono ?_
 rintro e w1 ⟨rfl,hw1⟩
 rw [hw1]
 clear hw1
 rw [e1]
 obtain ⟨hbl,-,-,b2,-⟩:=S0.out.box.facts
 have d1:W0.cell? ⟨g,k*6+1,none⟩=some (.int .i64 m.code):=bW S0.out.rmd H2.out 1 (by omega) rfl
 have d2:W0.cell? ⟨g,k*6+2,none⟩=some (.string m.text):=bW S0.out.rmd H2.out 2 (by omega) rfl
 have d3:W0.cell? ⟨g,k*6+3,none⟩=some (.slice none 0 0):=bW S0.out.rmd H2.out 3 (by omega) rfl
 have d5:W0.cell? ⟨g,k*6+5,none⟩=some (.bool true):=by have:=bW S0.out.rmd H2.out 5 (by omega) (u:=.bool m.done) rfl;rw [hd] at this;exact this
 rw [← HN.out] at b2
 obtain ⟨rl,r0,r1,r2,rf⟩:=aE kr.out
 have rf0:=rf 0
 have rf1:=rf 1
 have rf2:=rf 2
 have hI0:(0:Int)≤(k:Int):=by omega
 have hI1:(k:Int)<(n:Int):=by omega
 clear rf
 go_wp2_with fail
 refine bodyPost_ret (v:=.agg #[.int .i64 m.code,.string m.text,.slice none 0 0]) (by simp [results,Tryz.results155,go_sem,r0,r1,r2]) rfl ⟨rfl,?_,?_⟩
 ·have x0:=S0.out.setOff kr.out ⟨by decide,by decide,by decide,by decide⟩ hB0 0 (.int .i64 m.code)
  have y0:=an kr.out (j:=0) (.int .i64 m.code)
  have x1:=x0.setOff y0 ⟨by decide,by decide,by decide,by decide⟩ hB0 1 (.string m.text)
  exact x1.setOff (an y0 (j:=1) (.string m.text)) ⟨by decide,by decide,by decide,by decide⟩ hB0 2 (.slice none 0 0)
 ·refine ((((KS.of_below (X:=XN) A0.out lr hB0).trans (KS.setCell (X:=fun i=>i=w.heap.size) _ hB0 (Or.inl rfl) _) ?_).trans (KS.setCell (X:=fun i=>i=w.heap.size) _ hB0 (Or.inl rfl) _) ?_).trans (KS.setCell (X:=fun i=>i=w.heap.size) _ hB0 (Or.inl rfl) _) ?_)
  all_goals
   intro i hi h
   have e2:i=w.heap.size:=h
   omega
theorem jP {w:World}{base g cap n:Nat}{M:List ByteArray}(h:w.ownsRow base 9 1 (.slice (some ⟨g,0,none⟩) n cap) n (aU M)){i:Nat}{t:ByteArray}(ht:M[i]?=some t):w.cell? ⟨g,i,none⟩=some (.string t):=by
 have h1:=h.cells (g:=g) rfl i (.string t) (by rw [aU,List.getElem?_map,ht];rfl)
 rw [addr_add,Nat.zero_add] at h1
 exact h1
theorem pn (C:io w0 S a0 a1)(w:World)(nm:ByteArray)(h:SI w0 hb (.slice a0 S.n0 c0) (.slice a1 S.n1 c1) w making made L md or st)(hLn:L.length≤100000)(hm60:making.length≤60)(k:Nat)(m:SM)(h1:fI L nm=some k)(h2:L[k]?=some m)(hd:m.done=false)(tg i0:Nat)(ht:atI (nm1 S.f1) S.n1 nm=some tg)(hi:atL making nm=some i0) :
  Calls Tryz.prog 155 #[.pointer (some ⟨hb,0,none⟩),.string nm] w fun e w'=>gh w0 hb (.slice a0 S.n0 c0) (.slice a1 S.n1 c1) making L w e w' (.inr (.inl (making.drop i0))):=by
 obtain ⟨i1,hi1,hy0,hy1,hy2⟩:=dR fq
 have A0:=ae ((Below.refl w.heap.size w).alloc lr (.cells #[.int .i64 0,.string ⟨#[]⟩,.slice none 0 0] 41))
 have kr:Hid ((w.alloc (.cells #[.int .i64 0,.string ⟨#[]⟩,.slice none 0 0] 41)).heap[w.heap.size]?=some (.cells #[.int .i64 0,.string ⟨#[]⟩,.slice none 0 0] 41 (0,0))):=heap_alloc_new _ _
 have S0:=ae (h.below A0.out lr)
 have hB0:w0.heap.size≤w.heap.size:=h.lt
 have hkl:=(List.getElem?_eq_some_iff.1 h2).1
 obtain ⟨g,cap,cur,rfl,-⟩:=h.rmd.2.resolve_left (fun h=>by omega)
 have e1:cE (fI L nm)=(k:Int):=by rw [h1];rfl
 have e2:cE (atI (nm1 S.f1) S.n1 nm)=(tg:Int):=by rw [ht];rfl
 have hil:i0<making.length∧(∃ x,making[i0]?=some x∧(x.toList == nm.toList)=true)∧∀ (j:Nat) (y:ByteArray),j<i0→making[j]?=some y→(y.toList == nm.toList)=false:=by
  unfold atL at hi
  obtain ⟨q1,q2,q3⟩:=List.findIdx?_eq_some_iff_getElem.1 hi
  refine ⟨q1,⟨_,List.getElem?_eq_getElem q1,q2⟩,fun j y hj hy=>?_⟩
  have:=q3 j hj
  rw [Bool.not_eq_true] at this
  rw [(List.getElem?_eq_some_iff.1 hy).2] at this
  exact this
 obtain ⟨hil1,⟨xi,hxi,hxe⟩,hbef⟩:=hil
 obtain ⟨gs,cs,cus,rfl,hgs⟩:=h.rst.2.resolve_left (fun h=>by omega)
 have hcs:making.length≤cs:=hgs.2.2.1
 have H2:=ae h2
 have HXI:=ae hxi
 have HBF:=ae hbef
 have HXE:=ae hxe
 obtain ⟨n,hn⟩:∃ n,n=L.length:=⟨_,rfl⟩
 have HN:=ae hn
 have hkn:k<n:=by omega
 obtain ⟨ms,hms⟩:∃ ms,ms=making.length:=⟨_,rfl⟩
 have HMS:=ae hms
 have CC:=ae C
 have hsm:=C.ok.small
 rw [← hms] at hil1 hm60 hcs
 clear h h1 h2 hn C ht hi hgs hms hxi hxe hbef
 go_enter Tryz.func155,Tryz.ntmps155
 go_wp2_with fail
 generalize w.alloc (.cells #[.int .i64 0,.string ⟨#[]⟩,.slice none 0 0] 41)=W0 at A0 kr S0 ⊢
 refine (fo W0 nm S0.out hLn).mono ?_
 rintro e w1 ⟨rfl,hw1⟩
 rw [hw1]
 clear hw1
 rw [e1]
 obtain ⟨hbl,b0,b1,b2,-⟩:=S0.out.box.facts
 have d5:W0.cell? ⟨g,k*6+5,none⟩=some (.bool false):=by have:=bW S0.out.rmd H2.out 5 (by omega) (u:=.bool m.done) rfl;rw [hd] at this;exact this
 rw [← HN.out] at b2
 have hI0:(0:Int)≤(k:Int):=by omega
 have hI1:(k:Int)<(n:Int):=by omega
 go_wp2_with fail
 refine (dS a0 S.n0 c0 a1 S.n1 c1 S.f0 nm W0 (by omega) (CC.out.src.below S0.out.bel lr)).mono ?_
 rintro e w1 ⟨rfl,hB⟩
 have S1:=ae (S0.out.below hB lr)
 have kr1:Hid (w1.heap[w.heap.size]?=_):=(hB.block _ (ai kr.out)).trans kr.out
 have K1:=ae (A0.out.trans (hB.mono A0.out.size))
 clear hB b0 b1 b2 hbl d5
 obtain ⟨hbl,b0,b1,-⟩:=S1.out.box.facts
 go_wp2_with fail
 refine (dT a0 S.n0 c0 a1 S.n1 c1 S.f1 nm w1 (by omega) (CC.out.tgt.below S1.out.bel lr)).mono ?_
 rintro e w2 ⟨he,hB⟩
 rw [e2] at he
 subst he
 have S2:=ae (S1.out.below hB lr)
 have kr2:Hid (w2.heap[w.heap.size]?=_):=(hB.block _ (ai kr1.out)).trans kr1.out
 have K2:=ae (K1.out.trans (hB.mono K1.out.size))
 clear hB b0 b1 hbl
 obtain ⟨hbl,-,-,-,-,b4,b5,b6,b7,b8,bf⟩:=S2.out.box.facts
 have bf5:=bf 5
 have bf6:=bf 6
 have bf7:=bf 7
 have bf8:=bf 8
 rw [← HMS.out] at b4
 clear bf
 have hT0:(0:Int)≤(tg:Int):=by omega
 go_wp2_with fail
 go_loop [9] (fun i=>∃ j:Nat,j≤i0∧i=.int .i64 j) (fun i=>i0 - (intOf i).toNat)
 case atStart=>exact ⟨0,by omega,rfl⟩
 case round =>
  obtain ⟨j,hj,rfl⟩:=hrel
  obtain ⟨y,hy⟩:∃ y,making[j]?=some y:=⟨_,List.getElem?_eq_getElem (by have:=HMS.out;omega)⟩
  have dj:w2.cell? ⟨gs,j,none⟩=some (.string y):=jP S2.out.rst hy
  have hjm:(j:Int)<(ms:Int):=by omega
  have HY:=ae hy
  clear hy
  by_cases hlt:j<i0
  ·have hne:=HBF.out j y hlt HY.out
   have HNE:=ae hne
   go_wp2
   exact ⟨⟨j+1,by omega,by go_num⟩,by simp [intOf];omega⟩
  ·obtain rfl:j=i0:=by omega
   have hye:(y.toList == nm.toList)=true:=by
    have:=HY.out
    rw [HXI.out] at this
    cases this
    exact HXE.out
   go_upto_region 22 with fail
   clear dj b4 b5 b6 b7 b8 bf5 bf6 bf7 bf8
   have BX3:=ae (an S2.out.box (j:=8) (.bool true))
   have R3:Hid ((w2.setCell ⟨hb,8,none⟩ (.bool true)).ownsRow w0.heap.size 9 1 (.slice (some ⟨gs,0,none⟩) making.length cs) making.length (aU making)):=ar S2.out.rst (fun e=>by
    obtain ⟨_,_,cs2,hc2⟩:=af S2.out.rst hb e
    exact absurd (ah S2.out.box hc2) (by decide)) _ _
   have hbw:hb≠w.heap.size:=fun e=>absurd (ah S2.out.box (e ▸ kr2.out)) (by decide)
   have kr3:Hid ((w2.setCell ⟨hb,8,none⟩ (.bool true)).heap[w.heap.size]?=_):=(Below.heap_setCell _ _ _ _ (Ne.symm hbw)).trans kr2.out
   have K3:Hid (KS w0.heap.size XN w (w2.setCell ⟨hb,8,none⟩ (.bool true))):=(KS.of_below (X:=XN) K2.out lr hB0).to (KS.setCell w2 S2.out.hbB (.inr fun cs t fz hc=>.inr (.inr (ah hc S2.out.box))) _)
   have hhB:w0.heap.size≤hb:=S2.out.hbB
   generalize w2.setCell ⟨hb,8,none⟩ (.bool true)=W3 at BX3 R3 kr3 K3 ⊢
   have BX3':Hid (ShBox W3 hb (.slice a0 S.n0 c0) (.slice a1 S.n1 c1) (.slice (some ⟨g,0,none⟩) L.length cap) or (.slice (some ⟨gs,0,none⟩) making.length cs) 0 ⟨#[]⟩ (.slice none 0 0) true):=BX3.out
   obtain ⟨hbl3,-,-,-,-,b4,-⟩:=BX3'.out.facts
   rw [← HMS.out] at b4
   have LO:=ae (gK W3 9 1)
   have A4:=ae ((Below.refl W3.heap.size W3).alloc lr (.cells #[] 9))
   have HNW:Hid (∀ q u,(aU (making.drop j))[q]?=some u→(W3.alloc (.cells #[] 9)).cell? ((⟨gs,j,none⟩:Addr).add q)=some u):=fun q u hq=>by
    have h1:=(own_below R3.out A4.out lr).cells (g:=gs) rfl (j+q) u (by rw [← hq,aU,aU,List.getElem?_map,List.getElem?_map,List.getElem?_drop])
    rw [addr_add,Nat.zero_add] at h1
    rw [addr_add]
    exact h1
   have hjc:¬ cs=j:=by omega
   have hI2:(0:Int)≤(j:Int):=by omega
   have hI3:(j:Int)≤(ms:Int):=by omega
   have hI4:(ms:Int)≤(cs:Int):=by omega
   have hdl:(aU (making.drop j)).length=(ms - j)*1:=by rw [aU,List.length_map,List.length_drop,← HMS.out,Nat.mul_one]
   have HDL:=ae hdl
   have hone:∀ u∈aU (making.drop j),u.oneCell'=true:=fun u hu=>by
    rw [aU,List.mem_map] at hu
    obtain ⟨t,_,rfl⟩:=hu
    rfl
   have HONE:=ae hone
   clear hdl hone
   have HG:Hid (∀ w4:World,(W3.alloc (.cells #[] 9)).grownBy w4 (some W3.heap.size)→w4.heap[hb]?=W3.heap[hb]?∧w4.heap[w.heap.size]?=W3.heap[w.heap.size]?):=fun w4 hg=>by
    have hz:(W3.alloc (.cells #[] 9)).heap.size=W3.heap.size+1:=by simp
    have hwl:=ai kr3.out
    exact ⟨(hg.block hb (by omega) (fun e=>by have e2:hb=W3.heap.size:=Option.some.inj e;omega)).trans (A4.out.block hb hbl3),(hg.block w.heap.size (by omega) (fun e=>by have e2:w.heap.size=W3.heap.size:=Option.some.inj e;omega)).trans (A4.out.block _ hwl)⟩
   have hsz4:W3.heap.size≤(W3.alloc (.cells #[] 9)).heap.size:=by simp
   have hb16:(0+(ms - j))*16≤140737488355328:=by omega
   have hb63:0+(ms - j)≤maxLen:=by unfold maxLen;omega
   have hpos:0+(ms - j)≠0:=by omega
   go_wp2_with (first
    | (at_builtin;refine aC _ rfl (.tmp 129) (.tmp 135) 39 rfl W3.heap.size 9 i1 (.string ⟨#[]⟩) 1 16 Tryz.underlying39 hi1 hy0 hy1 hy2 rfl (by decide) (.slice (some ⟨W3.heap.size,0,none⟩) 0 0) 0 [] (by simp [Act.eval]) LO.out ⟨gs,j,none⟩ (ms - j) (cs - j) (aU (making.drop j)) (by simp [Act.eval]) HDL.out HNW.out HONE.out hb63 hb16 hsz4 ?_;intro v4 w4 hown hgrow hat;have O4:=ae hown;have hb4:=ae (HG.out w4 hgrow).1;have hw4:=ae (HG.out w4 hgrow).2;have G4:=ae hgrow;obtain ⟨g4,c4,cu4,rfl,hq4⟩:=hown.2.resolve_left (fun h=>hpos h.2);clear hq4 hown hgrow hat;obtain ⟨hbl4,-,-,-,-,-,f5,f6,f7,-,ff⟩:=(ShBox.blk BX3'.out hb4.out).facts;have ff5:=ff 5;have ff6:=ff 6;have ff7:=ff 7;obtain ⟨rl,r0,r1,r2,rf⟩:=aE (hw4.out.trans kr3.out);have rf0:=rf 0;have rf1:=rf 1;have rf2:=rf 2;have hbw2:¬ w.heap.size=hb:=(fun e=>hbw e.symm);have hbw3:¬ hb=w.heap.size:=hbw;clear ff rf)
    | fail)
   refine bodyPost_ret (v:=.agg #[.int .i64 6,.string ⟨#[]⟩,.slice (some ⟨g4,0,none⟩) (ms - j) c4]) (by simp [results,Tryz.results155,go_sem,r0,r1,r2]) rfl ?_
   have hcl:(making.drop j).length=ms - j:=by rw [List.length_drop,← HMS.out]
   have bx4:=hb4.out.trans BX3'.out
   have bx5:=an bx4 (j:=5) (.int .i64 6)
   have bx6:=an bx5 (j:=6) (.string ⟨#[]⟩)
   have bx7:=an bx6 (j:=7) (.slice (some ⟨g4,0,none⟩) (ms - j) c4)
   have hg4h:(Value.slice (some ⟨g4,0,none⟩) (ms - j) c4).ownBlock≠some hb:=fun e=>by
    obtain ⟨_,_,cs2,hc2⟩:=af O4.out hb (by simpa [Value.ownBlock] using e)
    exact absurd (ah bx4 hc2) (by decide)
   have hg4w:(Value.slice (some ⟨g4,0,none⟩) (ms - j) c4).ownBlock≠some w.heap.size:=fun e=>by
    obtain ⟨_,_,cs2,hc2⟩:=af O4.out w.heap.size (by simpa [Value.ownBlock] using e)
    exact absurd (ah (hw4.out.trans kr3.out) hc2) (by decide)
   have o4:w4.ownsRow w0.heap.size 9 1 (.slice (some ⟨g4,0,none⟩) (ms - j) c4) (ms - j) (aU (making.drop j)):=by
    have h1:=O4.out
    rw [Nat.zero_add,List.nil_append] at h1
    exact aT h1 (Nat.le_trans hB0 K3.out.below.size)
   have k4:KS w0.heap.size XN w w4:=(K3.out.to (KS.of_below (X:=XN) A4.out lr (Nat.le_trans hB0 K3.out.below.size))).to (KS.of_grown G4.out (Nat.le_trans (Nat.le_trans hB0 K3.out.below.size) hsz4) fun q hq=>by
    have e2:q=W3.heap.size:=(Option.some.inj hq).symm
    refine ⟨by rw [e2];exact Nat.le_trans hB0 K3.out.below.size,.inr fun cs t fz hc=>?_⟩
    rw [e2] at hc
    exact .inl (ah hc (heap_alloc_new W3 _)))
   have hshop:∀ (W:World) (cs:Array Value) (t:TypeId) (fz:Nat × Nat),W.heap[hb]?=w4.heap[hb]?∨(∃ c2,W.heap[hb]?=some (.cells c2 125 (0,0)))→W.heap[hb]?=some (.cells cs t fz)→t=9∨t=236∨t=125:=fun W cs t fz hW hc=>by
    rcases hW with hW | ⟨c2,hW⟩
    ·exact .inr (.inr (ah hc (hW.trans bx4)))
    ·exact .inr (.inr (ah hc hW))
   refine ⟨some ⟨g4,0,none⟩,c4,by rw [hcl];rfl,⟨_,_,_,_,_,(Below.heap_setCell _ _ _ _ hbw3).trans ((Below.heap_setCell _ _ _ _ hbw3).trans ((Below.heap_setCell _ _ _ _ hbw3).trans (by rw [hcl];exact bx7))),?_⟩,?_⟩
   ·show World.ownsRow _ _ _ _ _ (making.drop j).length _
    rw [hcl]
    exact ar (ar (ar (ar (ar (ar o4 hg4h _ _) hg4h _ _) hg4h _ _) hg4w _ _) hg4w _ _) hg4w _ _
   ·have k7:=((k4.to (KS.setCell (X:=XN) w4 hhB (.inr fun cs t fz=>hshop _ cs t fz (.inl rfl)) (.int .i64 6) (j:=5))).to (KS.setCell (X:=XN) _ hhB (.inr fun cs t fz=>hshop _ cs t fz (.inr ⟨_,bx5⟩)) (.string ⟨#[]⟩) (j:=6))).to (KS.setCell (X:=XN) _ hhB (.inr fun cs t fz=>hshop _ cs t fz (.inr ⟨_,bx6⟩)) (.slice (some ⟨g4,0,none⟩) (ms - j) c4) (j:=7))
    refine ((k7.trans (KS.setCell (X:=fun i=>i=w.heap.size) _ hB0 (Or.inl rfl) _) ?_).trans (KS.setCell (X:=fun i=>i=w.heap.size) _ hB0 (Or.inl rfl) _) ?_).trans (KS.setCell (X:=fun i=>i=w.heap.size) _ hB0 (Or.inl rfl) _) ?_
    all_goals
     intro i hi h
     have e2:i=w.heap.size:=h
     omega
end
def cF (nm:ByteArray):SM:=⟨nm,0,⟨#[]⟩,[],.slice none 0 0,false⟩
theorem iv (w:World)(v0 v1 v2 v3 v4 v5:Value)(t:TypeId):∀ j u,[v0,v1,v2,v3,v4,v5][j]?=some u→(w.alloc (.cells #[v0,v1,v2,v3,v4,v5] t)).cell? ((⟨w.heap.size,0,none⟩:Addr).add j)=some u:=by
 intro j u h
 rw [addr_add]
 have hj:j<6:=by
  rcases Nat.lt_or_ge j 6 with h' | h'
  ·exact h'
  ·rw [List.getElem?_eq_none (by simp;omega)] at h;cases h
 rcases (show j=0∨j=1∨j=2∨j=3∨j=4∨j=5 by omega) with rfl | rfl | rfl | rfl | rfl | rfl
 all_goals
  simp at h
  subst h
  simp
theorem iw (w:World)(v:Value)(t:TypeId):∀ j u,[v][j]?=some u→(w.alloc (.cells #[v] t)).cell? ((⟨w.heap.size,0,none⟩:Addr).add j)=some u:=by
 intro j u h
 rw [addr_add]
 have hj:j=0:=by
  rcases Nat.lt_or_ge j 1 with h' | h'
  ·omega
  ·rw [List.getElem?_eq_none (by simp;omega)] at h;cases h
 subst hj
 simp at h
 subst h
 simp
theorem dy {w:World}{base size n:Nat}{e:TypeId}{v:Value}{xs:List Value}(h:w.ownsRow base e size v n xs):∃ a cap,v=.slice a n cap:=by
 obtain ⟨_,⟨rfl,rfl⟩ | ⟨g,cap,cur,rfl,_⟩⟩:=h
 ·exact ⟨none,0,rfl⟩
 ·exact ⟨_,_,rfl⟩
theorem KS.fresh {B:Nat}{W w:World}(h:KS B XN W w){b:Nat}(hb:W.heap.size≤b)(hB:B≤W.heap.size)(j:Nat)(u:Value):KS B XN W (w.setCell ⟨b,j,none⟩ u) :=
 h.trans (KS.setCell (X:=fun i=>i=b) w (Nat.le_trans hB hb) (Or.inl rfl) u) fun i hi hy=>by have e2:i=b:=hy;omega
section
variable {w0 w:World}{hb:Nat}{s0 s1 or st:Value}{making:List ByteArray}{made:List Ent}{L:List SM}
theorem SI.upd' {g cap k j N:Nat}{m m':SM}{u:Value}(hN:L.length=N)(h:SI w0 hb s0 s1 w making made L (.slice (some ⟨g,0,none⟩) N cap) or st)(hm:L[k]?=some m)(hj:j<6)(he:smV m'=(smV m).set j u)(hs:m'.done=true→w.ownsRow w0.heap.size 239 3 m'.sv m'.seen.length (da m'.seen)) :
  SI w0 hb s0 s1 (w.setCell ⟨g,k*6+j,none⟩ u) making made (L.set k m') (.slice (some ⟨g,0,none⟩) N cap) or st∧KS w0.heap.size XN w (w.setCell ⟨g,k*6+j,none⟩ u)∧(L.set k m')[k]?=some m'∧(L.set k m').length=N:=by
 subst hN
 have:=h.upd hm hj he hs
 rw [List.length_set] at this
 exact ⟨this.1,this.2,List.getElem?_set_self (List.getElem?_eq_some_iff.1 hm).1,List.length_set⟩
theorem SI.told {g cap k N:Nat}{m:SM}(hN:L.length=N)(h:SI w0 hb s0 s1 w making made L (.slice (some ⟨g,0,none⟩) N cap) or st)(hm:L[k]?=some m)(hd:m.done=false)(rc:Int)(rt:ByteArray) :
  SI w0 hb s0 s1 (((w.setCell ⟨g,k*6+1,none⟩ (.int .i64 rc)).setCell ⟨g,k*6+1+1,none⟩ (.string rt)).setCell ⟨g,k*6+1+2,none⟩ (.slice none 0 0)) making made (L.set k ⟨m.name,rc,rt,m.seen,m.sv,false⟩) (.slice (some ⟨g,0,none⟩) N cap) or st∧KS w0.heap.size XN w (((w.setCell ⟨g,k*6+1,none⟩ (.int .i64 rc)).setCell ⟨g,k*6+1+1,none⟩ (.string rt)).setCell ⟨g,k*6+1+2,none⟩ (.slice none 0 0))∧(L.set k ⟨m.name,rc,rt,m.seen,m.sv,false⟩)[k]?=some ⟨m.name,rc,rt,m.seen,m.sv,false⟩∧(L.set k ⟨m.name,rc,rt,m.seen,m.sv,false⟩).length=N:=by
 obtain ⟨a1,a2,a3,a4⟩:=h.upd' hN hm (j:=1) (by omega) (u:=.int .i64 rc) (m':=⟨m.name,rc,m.text,m.seen,m.sv,false⟩) (by simp [smV,hd]) (fun h=>by cases h)
 obtain ⟨b1,b2,b3,b4⟩:=a1.upd' a4 a3 (j:=2) (by omega) (u:=.string rt) (m':=⟨m.name,rc,rt,m.seen,m.sv,false⟩) rfl (fun h=>by cases h)
 obtain ⟨d1,d2,d3,d4⟩:=b1.upd' b4 b3 (j:=3) (by omega) (m':=⟨m.name,rc,rt,m.seen,m.sv,false⟩) (u:=.slice none 0 0) rfl (fun h=>by cases h)
 rw [List.set_set,List.set_set] at d1 d3 d4
 exact ⟨d1,(a2.to b2).to d2,d3,d4⟩
end
section
variable {w0:World}{S:Spc}{a0 a1:Option Addr}{c0 c1 hb:Nat}{md or st:Value}{making:List ByteArray}{made:List Ent}{L:List SM}
theorem tA (C:io w0 S a0 a1)(w:World)(nm:ByteArray)(h:SI w0 hb (.slice a0 S.n0 c0) (.slice a1 S.n1 c1) w making made L md or st)(hLn:L.length≤100000)(hmd:made.length≤100000)(h1:fI L nm=none)(h2:atI (nm0 S.f0) S.n0 nm=none)(h3:atI (nm1 S.f1) S.n1 nm=none) :
  Calls Tryz.prog 155 #[.pointer (some ⟨hb,0,none⟩),.string nm] w fun e w'=>∃ md' or',e=.returned (.agg #[.int .i64 4,.string nm,.slice none 0 0])∧SI w0 hb (.slice a0 S.n0 c0) (.slice a1 S.n1 c1) w' making (made++[⟨nm,2,0,⟨#[]⟩,0,[]⟩]) ((L++[cF nm]).set L.length ⟨nm,4,nm,[],.slice none 0 0,true⟩) md' or' st∧KS w0.heap.size XN w w':=by
 obtain ⟨im,him,hm0,hm1,hm2⟩:=dR ip
 obtain ⟨i1,hi1,hy0,hy1,hy2⟩:=dR fq
 have A0:=ae ((Below.refl w.heap.size w).alloc lr (.cells #[.int .i64 0,.string ⟨#[]⟩,.slice none 0 0] 41))
 have kr:Hid ((w.alloc (.cells #[.int .i64 0,.string ⟨#[]⟩,.slice none 0 0] 41)).heap[w.heap.size]?=some (.cells #[.int .i64 0,.string ⟨#[]⟩,.slice none 0 0] 41 (0,0))):=heap_alloc_new _ _
 have S0:=ae (h.below A0.out lr)
 have hB0:w0.heap.size≤w.heap.size:=h.lt
 have e1:cE (fI L nm)=-1:=by rw [h1];rfl
 obtain ⟨am,cm,rfl⟩:=dy h.rmd
 obtain ⟨n,hn⟩:∃ n,n=L.length:=⟨_,rfl⟩
 have HN:=ae hn
 have CC:=ae C
 have hsm:=C.ok.small
 have hn1:n≤100000:=by omega
 clear h h1 hn C
 have es:cE (atI (nm0 S.f0) S.n0 nm)=-1:=by rw [h2];rfl
 have et:cE (atI (nm1 S.f1) S.n1 nm)=-1:=by rw [h3];rfl
 clear h2 h3
 go_enter Tryz.func155,Tryz.ntmps155
 go_wp2_with fail
 generalize w.alloc (.cells #[.int .i64 0,.string ⟨#[]⟩,.slice none 0 0] 41)=W0 at A0 kr S0 ⊢
 refine (fo W0 nm S0.out hLn).mono ?_
 rintro e w1 ⟨rfl,hw1⟩
 rw [hw1,e1]
 clear hw1 e1
 obtain ⟨hbl,-,-,b2,-⟩:=S0.out.box.facts
 rw [← HN.out] at b2
 have A1:=ae ((Below.refl W0.heap.size W0).alloc lr (.cells #[.string nm,.int .i64 0,.string ⟨#[]⟩,.slice none 0 0,.slice none 0 0,.bool false] 236))
 have SA:=ae (S0.out.below A1.out lr)
 have RM:=ae (by have h:=SA.out.rmd;rw [← HN.out] at h;exact h)
 have hz1:(W0.alloc (.cells #[.string nm,.int .i64 0,.string ⟨#[]⟩,.slice none 0 0,.slice none 0 0,.bool false] 236)).heap.size=W0.heap.size+1:=by simp
 have HG:Hid (∀ w2:World,(W0.alloc (.cells #[.string nm,.int .i64 0,.string ⟨#[]⟩,.slice none 0 0,.slice none 0 0,.bool false] 236)).grownBy w2 (Value.slice am n cm).ownBlock→w2.heap[hb]?=(W0.alloc (.cells #[.string nm,.int .i64 0,.string ⟨#[]⟩,.slice none 0 0,.slice none 0 0,.bool false] 236)).heap[hb]?):=fun w2 hg=>hg.block hb (by omega) fun e=>by
  obtain ⟨_,_,cs,hc⟩:=af RM.out hb e.symm
  exact absurd (ah SA.out.box hc) (by decide)
 have hbs1:w0.heap.size≤(W0.alloc (.cells #[.string nm,.int .i64 0,.string ⟨#[]⟩,.slice none 0 0,.slice none 0 0,.bool false] 236)).heap.size:=SA.out.lt
 have hz1':W0.heap.size<(W0.alloc (.cells #[.string nm,.int .i64 0,.string ⟨#[]⟩,.slice none 0 0,.slice none 0 0,.bool false] 236)).heap.size:=by omega
 clear hz1
 go_upto_region 7 with (first
  | (at_builtin;refine aC _ rfl (.tmp 46) (.tmp 49) 123 rfl w0.heap.size 236 im (.agg #[.string ⟨#[]⟩,.int .i64 0,.string ⟨#[]⟩,.slice none 0 0,.slice none 0 0,.bool false]) 6 96 Tryz.underlying123 him hm0 hm1 hm2 rfl (by decide) (.slice am n cm) n (L.flatMap smV) (by simp [Act.eval]) RM.out ⟨W0.heap.size,0,none⟩ 1 1 [.string nm,.int .i64 0,.string ⟨#[]⟩,.slice none 0 0,.slice none 0 0,.bool false] (by simp [Act.eval]) rfl (iv W0 _ _ _ _ _ _ _) (by simp [Value.oneCell']) (by unfold maxLen;omega) (by omega) hbs1 ?_;intro v2 w2 hown hgrow hat;have O2:=ae hown;have G2:=ae hgrow;have hb2:=ae (HG.out w2 hgrow);obtain ⟨g2,cp2,cu2,rfl,hq2⟩:=hown.2.resolve_left (fun h=>by omega);clear hq2 hown hgrow hat;obtain ⟨hbl2,-,-,f2,-,-,-,-,-,-,ff⟩:=(ShBox.blk SA.out.box hb2.out).facts;have ff2:=ff 2;clear ff)
  | fail)
 have SX:=ae (SA.out.addL (m:=cF nm) (w':=w2) (v:=.slice (some ⟨g2,0,none⟩) (n+1) cp2) (by rw [← HN.out];exact G2.out) (by rw [← HN.out];exact O2.out) rfl)
 have S3:=ae SX.out.1
 have K3:Hid (KS w0.heap.size XN w (w2.setCell ⟨hb,2,none⟩ (.slice (some ⟨g2,0,none⟩) (n+1) cp2))):=((KS.of_below (X:=XN) A0.out lr hB0).to (KS.of_below A1.out lr S0.out.lt)).to SX.out.2
 have kr3:Hid ((w2.setCell ⟨hb,2,none⟩ (.slice (some ⟨g2,0,none⟩) (n+1) cp2)).heap[w.heap.size]?=some (.cells #[.int .i64 0,.string ⟨#[]⟩,.slice none 0 0] 41 (0,0))):=by
  have h0:=(A1.out.block _ (ai kr.out)).trans kr.out
  exact (SX.out.2.blk _ _ _ _ h0 (by decide) (by decide) (by decide) fun h=>h).trans h0
 have hL1:(L++[cF nm]).length=n+1:=by rw [List.length_append,List.length_singleton,← HN.out]
 have hLk:Hid ((L++[cF nm])[n]?=some (cF nm)):=by rw [HN.out];show _=_;rw [List.getElem?_append_right lr,Nat.sub_self];rfl
 clear SX f2 ff2 hbl2 b2 hbl RM SA A1 HG O2 G2 hb2
 generalize w2.setCell ⟨hb,2,none⟩ (.slice (some ⟨g2,0,none⟩) (n+1) cp2)=W3 at S3 K3 kr3 ⊢
 obtain ⟨hbl,b0,b1,-⟩:=S3.out.box.facts
 go_wp2_with fail
 refine (dS a0 S.n0 c0 a1 S.n1 c1 S.f0 nm W3 (by omega) (CC.out.src.below S3.out.bel lr)).mono ?_
 rintro e w4 ⟨he,hB⟩
 rw [es] at he
 subst he
 have S4:=ae (S3.out.below hB lr)
 have kr4:Hid (w4.heap[w.heap.size]?=_):=(hB.block _ (ai kr3.out)).trans kr3.out
 have K4:=ae (K3.out.to (KS.of_below (X:=XN) hB lr S3.out.lt))
 clear hB b0 b1 hbl S3 K3 kr3
 obtain ⟨hbl,b0,b1,-⟩:=S4.out.box.facts
 go_wp2_with fail
 refine (dT a0 S.n0 c0 a1 S.n1 c1 S.f1 nm w4 (by omega) (CC.out.tgt.below S4.out.bel lr)).mono ?_
 rintro e w5 ⟨he,hB⟩
 rw [et] at he
 subst he
 have S5:=ae (S4.out.below hB lr)
 have kr5:Hid (w5.heap[w.heap.size]?=some (.cells #[.int .i64 0,.string ⟨#[]⟩,.slice none 0 0] 41 (0,0))):=(hB.block _ (ai kr4.out)).trans kr4.out
 have K5:=ae (K4.out.to (KS.of_below (X:=XN) hB lr S4.out.lt))
 clear hB b0 b1 hbl S4 K4 kr4 A0 S0 kr
 have A6:=ae ((Below.refl w5.heap.size w5).alloc lr (.cells #[.int .i64 4,.string nm,.slice none 0 0] 41))
 have kb:Hid ((w5.alloc (.cells #[.int .i64 4,.string nm,.slice none 0 0] 41)).heap[w5.heap.size]?=some (.cells #[.int .i64 4,.string nm,.slice none 0 0] 41 (0,0))):=heap_alloc_new _ _
 go_upto_region 13 with fail
 generalize w5.alloc (.cells #[.int .i64 4,.string nm,.slice none 0 0] 41)=W6 at A6 kb ⊢
 have S6:=ae (S5.out.below A6.out lr)
 have kr6:Hid (W6.heap[w.heap.size]?=some (.cells #[.int .i64 0,.string ⟨#[]⟩,.slice none 0 0] 41 (0,0))):=(A6.out.block _ (ai kr5.out)).trans kr5.out
 have K6:=ae (K5.out.to (KS.of_below (X:=XN) A6.out lr S5.out.lt))
 obtain ⟨rb,hrb⟩:∃ rb,rb=w5.heap.size:=⟨_,rfl⟩
 rw [← hrb] at kb ⊢
 have hrbw:w.heap.size≤rb:=by have:=K5.out.below.size;omega
 clear hrb A6 S5 kr5 K5
 obtain ⟨hbl,-,-,b2,-⟩:=S6.out.box.facts
 obtain ⟨rl,r0,r1,r2,-⟩:=aE kb.out
 obtain ⟨hg2B,hg2l,cs2,hc2⟩:=af S6.out.rmd g2 rfl
 have HC2:=ae hc2
 have R6:=ae (by have h:=S6.out.rmd;rw [hL1] at h;exact h)
 have q1:W6.cell? ⟨g2,n*6+1,none⟩=some (.int .i64 0):=bW (by rw [hL1];exact R6.out) hLk.out 1 (by omega) rfl
 have q2:W6.cell? ⟨g2,n*6+1+1,none⟩=some (.string ⟨#[]⟩):=bW (by rw [hL1];exact R6.out) hLk.out 2 (by omega) rfl
 have q3:W6.cell? ⟨g2,n*6+1+2,none⟩=some (.slice none 0 0):=bW (by rw [hL1];exact R6.out) hLk.out 3 (by omega) rfl
 have qf:∀ j,W6.frozen? ⟨g2,j,none⟩=false:=fun j=>by simp [World.frozen?,hc2]
 have qf1:=qf (n*6+1)
 have qf2:=qf (n*6+1+1)
 have qf3:=qf (n*6+1+2)
 clear qf hc2
 have hIn:(n:Int)<(n:Int)+1:=by omega
 have hg2h:g2≠hb:=by
  intro e
  have h:=HC2.out
  rw [e] at h
  exact absurd (ah h S6.out.box) (by decide)
 have hg2r:g2≠rb:=by
  intro e
  have h:=HC2.out
  rw [e] at h
  exact absurd (ah h kb.out) (by decide)
 refine wp_region_held_drew (S:=fun V=>V.cell? ⟨hb,2,none⟩=some (.slice (some ⟨g2,0,none⟩) (n+1) cp2)∧V.cell? ⟨rb,0,none⟩=some (.int .i64 4)∧V.cell? ⟨rb,1,none⟩=some (.string nm)∧V.cell? ⟨rb,2,none⟩=some (.slice none 0 0)) (by as_aux_lemma=>kernel_rfl) ⟨b2,r0,r1,r2⟩ (fun hS=>?_)
 have HS:=ae hS
 clear hS
 iterate 3
  refine aL 0 (v:=?_) rfl rfl (by as_aux_lemma=>kernel_rfl) (fun _ _ _ h=>h) rfl ?_ HS.out ?_
  rotate_left
  ·(intro wz hSw;obtain ⟨s0,s1,s2,s3⟩:=hSw;go_simp)
   (try with_reducible rfl)
  (try simp only [Act.put,nzL])
 refine aL 4 (v:=?_) rfl rfl (by as_aux_lemma=>kernel_rfl) (fun _ _ _ h=>h) rfl ?_ HS.out ?_
 rotate_left
 ·(intro wz hSw;obtain ⟨s0,s1,s2,s3⟩:=hSw;go_simp)
  (try with_reducible rfl)
 (try simp only [Act.put,nzL])
 refine aL 3 (v:=?_) rfl rfl (by as_aux_lemma=>kernel_rfl) (fun _ _ _ h=>h) rfl ?_ HS.out ?_
 rotate_left
 ·(intro wz hSw;obtain ⟨s0,s1,s2,s3⟩:=hSw;go_simp)
  (try with_reducible rfl)
 (try simp only [Act.put,nzL])
 iterate 3
  refine aL 5 (v:=?_) rfl rfl (by as_aux_lemma=>kernel_rfl) (fun _ _ _ h=>h) rfl ?_ HS.out ?_
  rotate_left
  ·(intro wz hSw;obtain ⟨s0,s1,s2,s3⟩:=hSw;go_simp)
   (try with_reducible rfl)
  (try simp only [Act.put,nzL])
 have TL:=ae (S6.out.told hL1 hLk.out rfl 4 nm)
 have HS8:Hid ((((W6.setCell ⟨g2,n*6+1,none⟩ (.int .i64 4)).setCell ⟨g2,n*6+1+1,none⟩ (.string nm)).setCell ⟨g2,n*6+1+2,none⟩ (.slice none 0 0)).drew.cell? ⟨hb,2,none⟩=some (.slice (some ⟨g2,0,none⟩) (n+1) cp2)∧(((W6.setCell ⟨g2,n*6+1,none⟩ (.int .i64 4)).setCell ⟨g2,n*6+1+1,none⟩ (.string nm)).setCell ⟨g2,n*6+1+2,none⟩ (.slice none 0 0)).drew.cell? ⟨rb,0,none⟩=some (.int .i64 4)∧(((W6.setCell ⟨g2,n*6+1,none⟩ (.int .i64 4)).setCell ⟨g2,n*6+1+1,none⟩ (.string nm)).setCell ⟨g2,n*6+1+2,none⟩ (.slice none 0 0)).drew.cell? ⟨rb,1,none⟩=some (.string nm)∧(((W6.setCell ⟨g2,n*6+1,none⟩ (.int .i64 4)).setCell ⟨g2,n*6+1+1,none⟩ (.string nm)).setCell ⟨g2,n*6+1+2,none⟩ (.slice none 0 0)).drew.cell? ⟨rb,2,none⟩=some (.slice none 0 0)) :=
  ⟨(cell_far _ _ _ _ hg2h).trans ((cell_far _ _ _ _ hg2h).trans ((cell_far _ _ _ _ hg2h).trans b2)),(cell_far _ _ _ _ hg2r).trans ((cell_far _ _ _ _ hg2r).trans ((cell_far _ _ _ _ hg2r).trans r0)),(cell_far _ _ _ _ hg2r).trans ((cell_far _ _ _ _ hg2r).trans ((cell_far _ _ _ _ hg2r).trans r1)),(cell_far _ _ _ _ hg2r).trans ((cell_far _ _ _ _ hg2r).trans ((cell_far _ _ _ _ hg2r).trans r2))⟩
 refine bm (i:=8) rfl (by as_aux_lemma=>kernel_rfl) (fun K hK=>?_)
 go_simp
 refine hK.out _ _ HS8.out ?_
 clear hK K HS q1 q2 q3 qf1 qf2 qf3 b2 r0 r1 r2 rl
 (try simp only [Act.put])
 refine wpAnyH_done (by as_aux_lemma=>kernel_rfl) ?_ _
 have D7:Hid (Below (((W6.setCell ⟨g2,n*6+1,none⟩ (.int .i64 4)).setCell ⟨g2,n*6+1+1,none⟩ (.string nm)).setCell ⟨g2,n*6+1+2,none⟩ (.slice none 0 0)).heap.size (((W6.setCell ⟨g2,n*6+1,none⟩ (.int .i64 4)).setCell ⟨g2,n*6+1+1,none⟩ (.string nm)).setCell ⟨g2,n*6+1+2,none⟩ (.slice none 0 0)) (((W6.setCell ⟨g2,n*6+1,none⟩ (.int .i64 4)).setCell ⟨g2,n*6+1+1,none⟩ (.string nm)).setCell ⟨g2,n*6+1+2,none⟩ (.slice none 0 0)).drew):=br.drew
 have S7:=ae (TL.out.1.below D7.out lr)
 have K7:=ae (K6.out.to (TL.out.2.1.to (KS.of_below (X:=XN) D7.out lr TL.out.1.lt)))
 have hk7:=TL.out.2.2.1
 have hl7:=TL.out.2.2.2
 have kr7:Hid ((((W6.setCell ⟨g2,n*6+1,none⟩ (.int .i64 4)).setCell ⟨g2,n*6+1+1,none⟩ (.string nm)).setCell ⟨g2,n*6+1+2,none⟩ (.slice none 0 0)).drew.heap[w.heap.size]?=some (.cells #[.int .i64 0,.string ⟨#[]⟩,.slice none 0 0] 41 (0,0))):=by
  have h0:=(TL.out.2.1.blk _ _ _ _ kr6.out (by decide) (by decide) (by decide) fun h=>h).trans kr6.out
  exact h0
 have kb7:Hid ((((W6.setCell ⟨g2,n*6+1,none⟩ (.int .i64 4)).setCell ⟨g2,n*6+1+1,none⟩ (.string nm)).setCell ⟨g2,n*6+1+2,none⟩ (.slice none 0 0)).drew.heap[rb]?=some (.cells #[.int .i64 4,.string nm,.slice none 0 0] 41 (0,0))):=by
  have h0:=(TL.out.2.1.blk _ _ _ _ kb.out (by decide) (by decide) (by decide) fun h=>h).trans kb.out
  exact h0
 have HK7:=ae hk7
 have HL7:=ae hl7
 clear TL HS8 hk7 hl7 kr6 kb K6 S6 R6 HC2 D7
 generalize (((W6.setCell ⟨g2,n*6+1,none⟩ (.int .i64 4)).setCell ⟨g2,n*6+1+1,none⟩ (.string nm)).setCell ⟨g2,n*6+1+2,none⟩ (.slice none 0 0)).drew=W7 at S7 K7 kr7 kb7 ⊢
 obtain ⟨hbl,-,-,b2,-⟩:=S7.out.box.facts
 obtain ⟨hg2B',hg2l',cs7,hc7⟩:=af S7.out.rmd g2 rfl
 have q5:W7.cell? ⟨g2,n*6+5,none⟩=some (.bool false):=bW (by have h:=S7.out.rmd;rw [HL7.out] at h ⊢;exact h) HK7.out 5 (by omega) rfl
 have qf5:W7.frozen? ⟨g2,n*6+5,none⟩=false:=by simp [World.frozen?,hc7]
 have TD:=ae (S7.out.upd' HL7.out HK7.out (j:=5) (by omega) (u:=.bool true) (m':=⟨nm,4,nm,[],.slice none 0 0,true⟩) rfl (fun _=>⟨rfl,.inl ⟨rfl,rfl⟩⟩))
 have kr8:Hid ((W7.setCell ⟨g2,n*6+5,none⟩ (.bool true)).heap[w.heap.size]?=some (.cells #[.int .i64 0,.string ⟨#[]⟩,.slice none 0 0] 41 (0,0))):=(TD.out.2.1.blk _ _ _ _ kr7.out (by decide) (by decide) (by decide) fun h=>h).trans kr7.out
 have kb8:Hid ((W7.setCell ⟨g2,n*6+5,none⟩ (.bool true)).heap[rb]?=some (.cells #[.int .i64 4,.string nm,.slice none 0 0] 41 (0,0))):=(TD.out.2.1.blk _ _ _ _ kb7.out (by decide) (by decide) (by decide) fun h=>h).trans kb7.out
 have S8:=ae TD.out.1
 have K8:=ae (K7.out.to TD.out.2.1)
 clear hc7
 go_upto_region 15 with fail
 clear b2 q5 qf5 TD S7 K7 kr7 kb7
 generalize W7.setCell ⟨g2,n*6+5,none⟩ (.bool true)=W8 at S8 K8 kr8 kb8 ⊢
 obtain ⟨ao,co,rfl⟩:=dy S8.out.ror
 obtain ⟨q,hq⟩:∃ q,q=made.length:=⟨_,rfl⟩
 have HQ:=ae hq
 rw [← hq] at hmd
 clear hq
 obtain ⟨hbl,-,-,-,b3,-⟩:=S8.out.box.facts
 rw [← HQ.out] at b3
 have A9:=ae ((Below.refl W8.heap.size W8).alloc lr (.cells #[.string nm] 9))
 have S9:=ae (S8.out.below A9.out lr)
 have RO:=ae (by have h:=S9.out.ror;rw [← HQ.out] at h;exact h)
 have hbs9:w0.heap.size≤(W8.alloc (.cells #[.string nm] 9)).heap.size:=S9.out.lt
 have HG:Hid (∀ w2:World,(W8.alloc (.cells #[.string nm] 9)).grownBy w2 (Value.slice ao q co).ownBlock→w2.heap[hb]?=(W8.alloc (.cells #[.string nm] 9)).heap[hb]?∧w2.heap[w.heap.size]?=(W8.alloc (.cells #[.string nm] 9)).heap[w.heap.size]?∧w2.heap[rb]?=(W8.alloc (.cells #[.string nm] 9)).heap[rb]?):=fun w2 hg=>by
  have hne:∀ (i:Nat) (cs:Array Value) (t:TypeId) (fz:Nat × Nat),(W8.alloc (.cells #[.string nm] 9)).heap[i]?=some (Obj.cells cs t fz)→t≠9→w2.heap[i]?=(W8.alloc (.cells #[.string nm] 9)).heap[i]?:=fun i cs t fz hi ht=>hg.block i (ai hi) fun e=>by
   obtain ⟨_,_,cs2,hc⟩:=af RO.out i e.symm
   exact ht (ah hi hc)
  exact ⟨hne _ _ _ _ S9.out.box (by decide),hne _ _ _ _ ((A9.out.block _ (ai kr8.out)).trans kr8.out) (by decide),hne _ _ _ _ ((A9.out.block _ (ai kb8.out)).trans kb8.out) (by decide)⟩
 have KRR:Hid ((W8.alloc (.cells #[.string nm] 9)).heap[w.heap.size]?=some (.cells #[.int .i64 0,.string ⟨#[]⟩,.slice none 0 0] 41 (0,0))):=(A9.out.block _ (ai kr8.out)).trans kr8.out
 have KBB:Hid ((W8.alloc (.cells #[.string nm] 9)).heap[rb]?=some (.cells #[.int .i64 4,.string nm,.slice none 0 0] 41 (0,0))):=(A9.out.block _ (ai kb8.out)).trans kb8.out
 have hbw:¬ hb=w.heap.size:=fun e=>by have h:=S8.out.box;unfold ShBox at h;rw [e] at h;exact absurd (ah h kr8.out) (by decide)
 have hbw':¬ w.heap.size=hb:=fun e=>hbw e.symm
 have hbr:¬ hb=rb:=fun e=>by have h:=S8.out.box;unfold ShBox at h;rw [e] at h;exact absurd (ah h kb8.out) (by decide)
 have hbr':¬ rb=hb:=fun e=>hbr e.symm
 go_wp2_with (first
  | (at_builtin;refine aC _ rfl (.tmp 100) (.tmp 102) 39 rfl w0.heap.size 9 i1 (.string ⟨#[]⟩) 1 16 Tryz.underlying39 hi1 hy0 hy1 hy2 rfl (by decide) (.slice ao q co) q (aU (made.map (·.name))) (by simp [Act.eval]) RO.out ⟨W8.heap.size,0,none⟩ 1 1 [.string nm] (by simp [Act.eval]) rfl (iw W8 _ _) (by simp [Value.oneCell']) (by unfold maxLen;omega) (by omega) hbs9 ?_;intro v9 w9 hown hgrow hat;have O9:=ae hown;have G9:=ae hgrow;have AT9:=ae hat;have hb9:=ae (HG.out w9 hgrow);obtain ⟨g9,c9,cu9,rfl,hq9⟩:=hown.2.resolve_left (fun h=>by omega);clear hq9 hown hgrow hat;obtain ⟨hbl9,-,-,-,f3,-,-,-,-,-,ff⟩:=(ShBox.blk S9.out.box hb9.out.1).facts;have ff3:=ff 3;obtain ⟨rl,r0,r1,r2,rf⟩:=aE (hb9.out.2.1.trans KRR.out);have rf0:=rf 0;have rf1:=rf 1;have rf2:=rf 2;obtain ⟨pl,p0,p1,p2,pf⟩:=aE (hb9.out.2.2.trans KBB.out);clear ff rf pf)
  | fail)
 have SXX:=ae (S9.out.ord (x:=⟨nm,2,0,⟨#[]⟩,0,[]⟩) (w':=w9) (v:=.slice (some ⟨g9,0,none⟩) (q+1) c9) (by rw [← HQ.out];exact G9.out) (by rw [← HQ.out];exact O9.out) (by rw [← HQ.out];exact AT9.out))
 refine bodyPost_ret (v:=.agg #[.int .i64 4,.string nm,.slice none 0 0]) (by simp [results,Tryz.results155,go_sem,r0,r1,r2]) rfl ?_
 have krF:=(Below.heap_setCell w9 ⟨hb,3,none⟩ (.slice (some ⟨g9,0,none⟩) (q+1) c9) w.heap.size hbw').trans (hb9.out.2.1.trans KRR.out)
 refine ⟨.slice (some ⟨g2,0,none⟩) (n+1) cp2,.slice (some ⟨g9,0,none⟩) (q+1) c9,rfl,?_,?_⟩
 ·rw [← HN.out]
  have x0:=SXX.out.1
  rw [List.set_set] at x0
  replace x0:=x0.setOff krF ⟨by decide,by decide,by decide,by decide⟩ hB0 0 (.int .i64 4)
  have y0:=an krF (j:=0) (.int .i64 4)
  have x1:=x0.setOff y0 ⟨by decide,by decide,by decide,by decide⟩ hB0 1 (.string nm)
  exact x1.setOff (an y0 (j:=1) (.string nm)) ⟨by decide,by decide,by decide,by decide⟩ hB0 2 (.slice none 0 0)
 ·have k0:=(K8.out.to (KS.of_below (X:=XN) A9.out lr S8.out.lt)).to SXX.out.2
  exact ((k0.fresh lr hB0 0 _).fresh lr hB0 1 _).fresh lr hB0 2 _
end
section
variable {w0:World}{S:Spc}{a0 a1:Option Addr}{c0 c1 hb:Nat}{md or st:Value}{making:List ByteArray}{made:List Ent}{L:List SM}
theorem uT (C:io w0 S a0 a1)(w:World)(nm:ByteArray)(h:SI w0 hb (.slice a0 S.n0 c0) (.slice a1 S.n1 c1) w making made L md or st)(hLn:L.length≤100000)(hmd:made.length≤100000)(h1:fI L nm=none)(si:Nat)(h2:atI (nm0 S.f0) S.n0 nm=some si)(h3:atI (nm1 S.f1) S.n1 nm=none) :
  Calls Tryz.prog 155 #[.pointer (some ⟨hb,0,none⟩),.string nm] w fun e w'=>∃ md' or',e=.returned (.agg #[.int .i64 0,.string (S.f0 si).text,.slice none 0 0])∧SI w0 hb (.slice a0 S.n0 c0) (.slice a1 S.n1 c1) w' making (made++[⟨nm,1,0,(S.f0 si).text,0,[]⟩]) ((L++[cF nm]).set L.length ⟨nm,0,(S.f0 si).text,[],.slice none 0 0,true⟩) md' or' st∧KS w0.heap.size XN w w':=by
 obtain ⟨im,him,hm0,hm1,hm2⟩:=dR ip
 obtain ⟨i1,hi1,hy0,hy1,hy2⟩:=dR fq
 have A0:=ae ((Below.refl w.heap.size w).alloc lr (.cells #[.int .i64 0,.string ⟨#[]⟩,.slice none 0 0] 41))
 have kr:Hid ((w.alloc (.cells #[.int .i64 0,.string ⟨#[]⟩,.slice none 0 0] 41)).heap[w.heap.size]?=some (.cells #[.int .i64 0,.string ⟨#[]⟩,.slice none 0 0] 41 (0,0))):=heap_alloc_new _ _
 have S0:=ae (h.below A0.out lr)
 have hB0:w0.heap.size≤w.heap.size:=h.lt
 have e1:cE (fI L nm)=-1:=by rw [h1];rfl
 obtain ⟨am,cm,rfl⟩:=dy h.rmd
 obtain ⟨n,hn⟩:∃ n,n=L.length:=⟨_,rfl⟩
 have HN:=ae hn
 have CC:=ae C
 have hsm:=C.ok.small
 have hn1:n≤100000:=by omega
 clear h h1 hn C
 have es:cE (atI (nm0 S.f0) S.n0 nm)=(si:Int):=by rw [h2];rfl
 have et:cE (atI (nm1 S.f1) S.n1 nm)=-1:=by rw [h3];rfl
 have hsi:=(aR h2).1
 obtain ⟨sb,so,ha0,hrs⟩:∃ sb so,a0=some ⟨sb,so,none⟩∧RowSource w0 sb so S.n0 S.f0:=by
  rcases CC.out.src with h | ⟨b,off,e,hr⟩
  ·omega
  ·exact ⟨b,off,e,hr⟩
 have HRS:=ae hrs
 have HA0:=ae ha0
 obtain ⟨tx,htx⟩:∃ tx,tx=(S.f0 si).text:=⟨_,rfl⟩
 have HTX:=ae htx
 rw [← htx]
 clear h2 h3 hrs htx ha0
 go_enter Tryz.func155,Tryz.ntmps155
 go_wp2_with fail
 generalize w.alloc (.cells #[.int .i64 0,.string ⟨#[]⟩,.slice none 0 0] 41)=W0 at A0 kr S0 ⊢
 refine (fo W0 nm S0.out hLn).mono ?_
 rintro e w1 ⟨rfl,hw1⟩
 rw [hw1,e1]
 clear hw1 e1
 obtain ⟨hbl,-,-,b2,-⟩:=S0.out.box.facts
 rw [← HN.out] at b2
 have A1:=ae ((Below.refl W0.heap.size W0).alloc lr (.cells #[.string nm,.int .i64 0,.string ⟨#[]⟩,.slice none 0 0,.slice none 0 0,.bool false] 236))
 have SA:=ae (S0.out.below A1.out lr)
 have RM:=ae (by have h:=SA.out.rmd;rw [← HN.out] at h;exact h)
 have hz1:(W0.alloc (.cells #[.string nm,.int .i64 0,.string ⟨#[]⟩,.slice none 0 0,.slice none 0 0,.bool false] 236)).heap.size=W0.heap.size+1:=by simp
 have HG:Hid (∀ w2:World,(W0.alloc (.cells #[.string nm,.int .i64 0,.string ⟨#[]⟩,.slice none 0 0,.slice none 0 0,.bool false] 236)).grownBy w2 (Value.slice am n cm).ownBlock→w2.heap[hb]?=(W0.alloc (.cells #[.string nm,.int .i64 0,.string ⟨#[]⟩,.slice none 0 0,.slice none 0 0,.bool false] 236)).heap[hb]?):=fun w2 hg=>hg.block hb (by omega) fun e=>by
  obtain ⟨_,_,cs,hc⟩:=af RM.out hb e.symm
  exact absurd (ah SA.out.box hc) (by decide)
 have hbs1:w0.heap.size≤(W0.alloc (.cells #[.string nm,.int .i64 0,.string ⟨#[]⟩,.slice none 0 0,.slice none 0 0,.bool false] 236)).heap.size:=SA.out.lt
 have hz1':W0.heap.size<(W0.alloc (.cells #[.string nm,.int .i64 0,.string ⟨#[]⟩,.slice none 0 0,.slice none 0 0,.bool false] 236)).heap.size:=by omega
 clear hz1
 go_upto_region 7 with (first
  | (at_builtin;refine aC _ rfl (.tmp 46) (.tmp 49) 123 rfl w0.heap.size 236 im (.agg #[.string ⟨#[]⟩,.int .i64 0,.string ⟨#[]⟩,.slice none 0 0,.slice none 0 0,.bool false]) 6 96 Tryz.underlying123 him hm0 hm1 hm2 rfl (by decide) (.slice am n cm) n (L.flatMap smV) (by simp [Act.eval]) RM.out ⟨W0.heap.size,0,none⟩ 1 1 [.string nm,.int .i64 0,.string ⟨#[]⟩,.slice none 0 0,.slice none 0 0,.bool false] (by simp [Act.eval]) rfl (iv W0 _ _ _ _ _ _ _) (by simp [Value.oneCell']) (by unfold maxLen;omega) (by omega) hbs1 ?_;intro v2 w2 hown hgrow hat;have O2:=ae hown;have G2:=ae hgrow;have hb2:=ae (HG.out w2 hgrow);obtain ⟨g2,cp2,cu2,rfl,hq2⟩:=hown.2.resolve_left (fun h=>by omega);clear hq2 hown hgrow hat;obtain ⟨hbl2,-,-,f2,-,-,-,-,-,-,ff⟩:=(ShBox.blk SA.out.box hb2.out).facts;have ff2:=ff 2;clear ff)
  | fail)
 have SX:=ae (SA.out.addL (m:=cF nm) (w':=w2) (v:=.slice (some ⟨g2,0,none⟩) (n+1) cp2) (by rw [← HN.out];exact G2.out) (by rw [← HN.out];exact O2.out) rfl)
 have S3:=ae SX.out.1
 have K3:Hid (KS w0.heap.size XN w (w2.setCell ⟨hb,2,none⟩ (.slice (some ⟨g2,0,none⟩) (n+1) cp2))):=((KS.of_below (X:=XN) A0.out lr hB0).to (KS.of_below A1.out lr S0.out.lt)).to SX.out.2
 have kr3:Hid ((w2.setCell ⟨hb,2,none⟩ (.slice (some ⟨g2,0,none⟩) (n+1) cp2)).heap[w.heap.size]?=some (.cells #[.int .i64 0,.string ⟨#[]⟩,.slice none 0 0] 41 (0,0))):=by
  have h0:=(A1.out.block _ (ai kr.out)).trans kr.out
  exact (SX.out.2.blk _ _ _ _ h0 (by decide) (by decide) (by decide) fun h=>h).trans h0
 have hL1:(L++[cF nm]).length=n+1:=by rw [List.length_append,List.length_singleton,← HN.out]
 have hLk:Hid ((L++[cF nm])[n]?=some (cF nm)):=by rw [HN.out];show _=_;rw [List.getElem?_append_right lr,Nat.sub_self];rfl
 clear SX f2 ff2 hbl2 b2 hbl RM SA A1 HG O2 G2 hb2
 generalize w2.setCell ⟨hb,2,none⟩ (.slice (some ⟨g2,0,none⟩) (n+1) cp2)=W3 at S3 K3 kr3 ⊢
 obtain ⟨hbl,b0,b1,-⟩:=S3.out.box.facts
 go_wp2_with fail
 refine (dS a0 S.n0 c0 a1 S.n1 c1 S.f0 nm W3 (by omega) (CC.out.src.below S3.out.bel lr)).mono ?_
 rintro e w4 ⟨he,hB⟩
 rw [es] at he
 subst he
 have S4:=ae (S3.out.below hB lr)
 have kr4:Hid (w4.heap[w.heap.size]?=_):=(hB.block _ (ai kr3.out)).trans kr3.out
 have K4:=ae (K3.out.to (KS.of_below (X:=XN) hB lr S3.out.lt))
 clear hB b0 b1 hbl S3 K3 kr3
 obtain ⟨hbl,b0,b1,-⟩:=S4.out.box.facts
 go_wp2_with fail
 refine (dT a0 S.n0 c0 a1 S.n1 c1 S.f1 nm w4 (by omega) (CC.out.tgt.below S4.out.bel lr)).mono ?_
 rintro e w5 ⟨he,hB⟩
 rw [et] at he
 subst he
 have S5:=ae (S4.out.below hB lr)
 have kr5:Hid (w5.heap[w.heap.size]?=some (.cells #[.int .i64 0,.string ⟨#[]⟩,.slice none 0 0] 41 (0,0))):=(hB.block _ (ai kr4.out)).trans kr4.out
 have K5:=ae (K4.out.to (KS.of_below (X:=XN) hB lr S4.out.lt))
 clear hB b0 b1 hbl S4 K4 kr4 A0 S0 kr
 have A5:=ae ((Below.refl w5.heap.size w5).alloc lr (.cells #[.int .i64 4,.string nm,.slice none 0 0] 41))
 have S5a:=ae (S5.out.below A5.out lr)
 have hI0:(0:Int)≤(si:Int):=by omega
 have hI1:(si:Int)<(S.n0:Int):=by omega
 have q0:(w5.alloc (.cells #[.int .i64 4,.string nm,.slice none 0 0] 41)).cell? ⟨hb,0,none⟩=some (.slice (some ⟨sb,so,none⟩) S.n0 c0):=by have h:=S5a.out.box.facts.2.1;rw [HA0.out] at h;exact h
 have q1:(w5.alloc (.cells #[.int .i64 4,.string nm,.slice none 0 0] 41)).cell? ⟨sb,so+si*2+1,none⟩=some (.string tx):=by
  rw [HTX.out]
  exact ((HRS.out.below S5a.out.bel lr).2 si hsi).2
 have hbl:=S5.out.box.facts.1
 have ql:sb<w5.heap.size:=ll HRS.out.1 S5.out.lt
 go_upto_region 13 with fail
 clear q0 q1 ql hbl A5 S5a
 have A6:=ae ((Below.refl w5.heap.size w5).alloc lr (.cells #[.int .i64 0,.string tx,.slice none 0 0] 41))
 have kb:Hid ((w5.alloc (.cells #[.int .i64 0,.string tx,.slice none 0 0] 41)).heap[w5.heap.size]?=some (.cells #[.int .i64 0,.string tx,.slice none 0 0] 41 (0,0))):=heap_alloc_new _ _
 generalize w5.alloc (.cells #[.int .i64 0,.string tx,.slice none 0 0] 41)=W6 at A6 kb ⊢
 have S6:=ae (S5.out.below A6.out lr)
 have kr6:Hid (W6.heap[w.heap.size]?=some (.cells #[.int .i64 0,.string ⟨#[]⟩,.slice none 0 0] 41 (0,0))):=(A6.out.block _ (ai kr5.out)).trans kr5.out
 have K6:=ae (K5.out.to (KS.of_below (X:=XN) A6.out lr S5.out.lt))
 obtain ⟨rb,hrb⟩:∃ rb,rb=w5.heap.size:=⟨_,rfl⟩
 rw [← hrb] at kb ⊢
 have hrbw:w.heap.size≤rb:=by have:=K5.out.below.size;omega
 clear hrb A6 S5 kr5 K5
 obtain ⟨hbl,-,-,b2,-⟩:=S6.out.box.facts
 obtain ⟨rl,r0,r1,r2,-⟩:=aE kb.out
 obtain ⟨hg2B,hg2l,cs2,hc2⟩:=af S6.out.rmd g2 rfl
 have HC2:=ae hc2
 have R6:=ae (by have h:=S6.out.rmd;rw [hL1] at h;exact h)
 have q1:W6.cell? ⟨g2,n*6+1,none⟩=some (.int .i64 0):=bW (by rw [hL1];exact R6.out) hLk.out 1 (by omega) rfl
 have q2:W6.cell? ⟨g2,n*6+1+1,none⟩=some (.string ⟨#[]⟩):=bW (by rw [hL1];exact R6.out) hLk.out 2 (by omega) rfl
 have q3:W6.cell? ⟨g2,n*6+1+2,none⟩=some (.slice none 0 0):=bW (by rw [hL1];exact R6.out) hLk.out 3 (by omega) rfl
 have qf:∀ j,W6.frozen? ⟨g2,j,none⟩=false:=fun j=>by simp [World.frozen?,hc2]
 have qf1:=qf (n*6+1)
 have qf2:=qf (n*6+1+1)
 have qf3:=qf (n*6+1+2)
 clear qf hc2
 have hIn:(n:Int)<(n:Int)+1:=by omega
 have hg2h:g2≠hb:=by
  intro e
  have h:=HC2.out
  rw [e] at h
  exact absurd (ah h S6.out.box) (by decide)
 have hg2r:g2≠rb:=by
  intro e
  have h:=HC2.out
  rw [e] at h
  exact absurd (ah h kb.out) (by decide)
 refine wp_region_held_drew (S:=fun V=>V.cell? ⟨hb,2,none⟩=some (.slice (some ⟨g2,0,none⟩) (n+1) cp2)∧V.cell? ⟨rb,0,none⟩=some (.int .i64 0)∧V.cell? ⟨rb,1,none⟩=some (.string tx)∧V.cell? ⟨rb,2,none⟩=some (.slice none 0 0)) (by as_aux_lemma=>kernel_rfl) ⟨b2,r0,r1,r2⟩ (fun hS=>?_)
 have HS:=ae hS
 clear hS
 iterate 3
  refine aL 0 (v:=?_) rfl rfl (by as_aux_lemma=>kernel_rfl) (fun _ _ _ h=>h) rfl ?_ HS.out ?_
  rotate_left
  ·(intro wz hSw;obtain ⟨s0,s1,s2,s3⟩:=hSw;go_simp)
   (try with_reducible rfl)
  (try simp only [Act.put,nzL])
 refine aL 4 (v:=?_) rfl rfl (by as_aux_lemma=>kernel_rfl) (fun _ _ _ h=>h) rfl ?_ HS.out ?_
 rotate_left
 ·(intro wz hSw;obtain ⟨s0,s1,s2,s3⟩:=hSw;go_simp)
  (try with_reducible rfl)
 (try simp only [Act.put,nzL])
 refine aL 3 (v:=?_) rfl rfl (by as_aux_lemma=>kernel_rfl) (fun _ _ _ h=>h) rfl ?_ HS.out ?_
 rotate_left
 ·(intro wz hSw;obtain ⟨s0,s1,s2,s3⟩:=hSw;go_simp)
  (try with_reducible rfl)
 (try simp only [Act.put,nzL])
 iterate 3
  refine aL 5 (v:=?_) rfl rfl (by as_aux_lemma=>kernel_rfl) (fun _ _ _ h=>h) rfl ?_ HS.out ?_
  rotate_left
  ·(intro wz hSw;obtain ⟨s0,s1,s2,s3⟩:=hSw;go_simp)
   (try with_reducible rfl)
  (try simp only [Act.put,nzL])
 have TL:=ae (S6.out.told hL1 hLk.out rfl 0 tx)
 have HS8:Hid ((((W6.setCell ⟨g2,n*6+1,none⟩ (.int .i64 0)).setCell ⟨g2,n*6+1+1,none⟩ (.string tx)).setCell ⟨g2,n*6+1+2,none⟩ (.slice none 0 0)).drew.cell? ⟨hb,2,none⟩=some (.slice (some ⟨g2,0,none⟩) (n+1) cp2)∧(((W6.setCell ⟨g2,n*6+1,none⟩ (.int .i64 0)).setCell ⟨g2,n*6+1+1,none⟩ (.string tx)).setCell ⟨g2,n*6+1+2,none⟩ (.slice none 0 0)).drew.cell? ⟨rb,0,none⟩=some (.int .i64 0)∧(((W6.setCell ⟨g2,n*6+1,none⟩ (.int .i64 0)).setCell ⟨g2,n*6+1+1,none⟩ (.string tx)).setCell ⟨g2,n*6+1+2,none⟩ (.slice none 0 0)).drew.cell? ⟨rb,1,none⟩=some (.string tx)∧(((W6.setCell ⟨g2,n*6+1,none⟩ (.int .i64 0)).setCell ⟨g2,n*6+1+1,none⟩ (.string tx)).setCell ⟨g2,n*6+1+2,none⟩ (.slice none 0 0)).drew.cell? ⟨rb,2,none⟩=some (.slice none 0 0)) :=
  ⟨(cell_far _ _ _ _ hg2h).trans ((cell_far _ _ _ _ hg2h).trans ((cell_far _ _ _ _ hg2h).trans b2)),(cell_far _ _ _ _ hg2r).trans ((cell_far _ _ _ _ hg2r).trans ((cell_far _ _ _ _ hg2r).trans r0)),(cell_far _ _ _ _ hg2r).trans ((cell_far _ _ _ _ hg2r).trans ((cell_far _ _ _ _ hg2r).trans r1)),(cell_far _ _ _ _ hg2r).trans ((cell_far _ _ _ _ hg2r).trans ((cell_far _ _ _ _ hg2r).trans r2))⟩
 refine bm (i:=8) rfl (by as_aux_lemma=>kernel_rfl) (fun K hK=>?_)
 go_simp
 refine hK.out _ _ HS8.out ?_
 clear hK K HS q1 q2 q3 qf1 qf2 qf3 b2 r0 r1 r2 rl
 (try simp only [Act.put])
 refine wpAnyH_done (by as_aux_lemma=>kernel_rfl) ?_ _
 have D7:Hid (Below (((W6.setCell ⟨g2,n*6+1,none⟩ (.int .i64 0)).setCell ⟨g2,n*6+1+1,none⟩ (.string tx)).setCell ⟨g2,n*6+1+2,none⟩ (.slice none 0 0)).heap.size (((W6.setCell ⟨g2,n*6+1,none⟩ (.int .i64 0)).setCell ⟨g2,n*6+1+1,none⟩ (.string tx)).setCell ⟨g2,n*6+1+2,none⟩ (.slice none 0 0)) (((W6.setCell ⟨g2,n*6+1,none⟩ (.int .i64 0)).setCell ⟨g2,n*6+1+1,none⟩ (.string tx)).setCell ⟨g2,n*6+1+2,none⟩ (.slice none 0 0)).drew):=br.drew
 have S7:=ae (TL.out.1.below D7.out lr)
 have K7:=ae (K6.out.to (TL.out.2.1.to (KS.of_below (X:=XN) D7.out lr TL.out.1.lt)))
 have hk7:=TL.out.2.2.1
 have hl7:=TL.out.2.2.2
 have kr7:Hid ((((W6.setCell ⟨g2,n*6+1,none⟩ (.int .i64 0)).setCell ⟨g2,n*6+1+1,none⟩ (.string tx)).setCell ⟨g2,n*6+1+2,none⟩ (.slice none 0 0)).drew.heap[w.heap.size]?=some (.cells #[.int .i64 0,.string ⟨#[]⟩,.slice none 0 0] 41 (0,0))):=by
  have h0:=(TL.out.2.1.blk _ _ _ _ kr6.out (by decide) (by decide) (by decide) fun h=>h).trans kr6.out
  exact h0
 have kb7:Hid ((((W6.setCell ⟨g2,n*6+1,none⟩ (.int .i64 0)).setCell ⟨g2,n*6+1+1,none⟩ (.string tx)).setCell ⟨g2,n*6+1+2,none⟩ (.slice none 0 0)).drew.heap[rb]?=some (.cells #[.int .i64 0,.string tx,.slice none 0 0] 41 (0,0))):=by
  have h0:=(TL.out.2.1.blk _ _ _ _ kb.out (by decide) (by decide) (by decide) fun h=>h).trans kb.out
  exact h0
 have HK7:=ae hk7
 have HL7:=ae hl7
 clear TL HS8 hk7 hl7 kr6 kb K6 S6 R6 HC2 D7
 generalize (((W6.setCell ⟨g2,n*6+1,none⟩ (.int .i64 0)).setCell ⟨g2,n*6+1+1,none⟩ (.string tx)).setCell ⟨g2,n*6+1+2,none⟩ (.slice none 0 0)).drew=W7 at S7 K7 kr7 kb7 ⊢
 obtain ⟨hbl,-,-,b2,-⟩:=S7.out.box.facts
 obtain ⟨hg2B',hg2l',cs7,hc7⟩:=af S7.out.rmd g2 rfl
 have q5:W7.cell? ⟨g2,n*6+5,none⟩=some (.bool false):=bW (by have h:=S7.out.rmd;rw [HL7.out] at h ⊢;exact h) HK7.out 5 (by omega) rfl
 have qf5:W7.frozen? ⟨g2,n*6+5,none⟩=false:=by simp [World.frozen?,hc7]
 have TD:=ae (S7.out.upd' HL7.out HK7.out (j:=5) (by omega) (u:=.bool true) (m':=⟨nm,0,tx,[],.slice none 0 0,true⟩) rfl (fun _=>⟨rfl,.inl ⟨rfl,rfl⟩⟩))
 have kr8:Hid ((W7.setCell ⟨g2,n*6+5,none⟩ (.bool true)).heap[w.heap.size]?=some (.cells #[.int .i64 0,.string ⟨#[]⟩,.slice none 0 0] 41 (0,0))):=(TD.out.2.1.blk _ _ _ _ kr7.out (by decide) (by decide) (by decide) fun h=>h).trans kr7.out
 have kb8:Hid ((W7.setCell ⟨g2,n*6+5,none⟩ (.bool true)).heap[rb]?=some (.cells #[.int .i64 0,.string tx,.slice none 0 0] 41 (0,0))):=(TD.out.2.1.blk _ _ _ _ kb7.out (by decide) (by decide) (by decide) fun h=>h).trans kb7.out
 have S8:=ae TD.out.1
 have K8:=ae (K7.out.to TD.out.2.1)
 clear hc7
 go_upto_region 15 with fail
 clear b2 q5 qf5 TD S7 K7 kr7 kb7
 generalize W7.setCell ⟨g2,n*6+5,none⟩ (.bool true)=W8 at S8 K8 kr8 kb8 ⊢
 obtain ⟨ao,co,rfl⟩:=dy S8.out.ror
 obtain ⟨q,hq⟩:∃ q,q=made.length:=⟨_,rfl⟩
 have HQ:=ae hq
 rw [← hq] at hmd
 clear hq
 obtain ⟨hbl,-,-,-,b3,-⟩:=S8.out.box.facts
 rw [← HQ.out] at b3
 have A9:=ae ((Below.refl W8.heap.size W8).alloc lr (.cells #[.string nm] 9))
 have S9:=ae (S8.out.below A9.out lr)
 have RO:=ae (by have h:=S9.out.ror;rw [← HQ.out] at h;exact h)
 have hbs9:w0.heap.size≤(W8.alloc (.cells #[.string nm] 9)).heap.size:=S9.out.lt
 have HG:Hid (∀ w2:World,(W8.alloc (.cells #[.string nm] 9)).grownBy w2 (Value.slice ao q co).ownBlock→w2.heap[hb]?=(W8.alloc (.cells #[.string nm] 9)).heap[hb]?∧w2.heap[w.heap.size]?=(W8.alloc (.cells #[.string nm] 9)).heap[w.heap.size]?∧w2.heap[rb]?=(W8.alloc (.cells #[.string nm] 9)).heap[rb]?):=fun w2 hg=>by
  have hne:∀ (i:Nat) (cs:Array Value) (t:TypeId) (fz:Nat × Nat),(W8.alloc (.cells #[.string nm] 9)).heap[i]?=some (Obj.cells cs t fz)→t≠9→w2.heap[i]?=(W8.alloc (.cells #[.string nm] 9)).heap[i]?:=fun i cs t fz hi ht=>hg.block i (ai hi) fun e=>by
   obtain ⟨_,_,cs2,hc⟩:=af RO.out i e.symm
   exact ht (ah hi hc)
  exact ⟨hne _ _ _ _ S9.out.box (by decide),hne _ _ _ _ ((A9.out.block _ (ai kr8.out)).trans kr8.out) (by decide),hne _ _ _ _ ((A9.out.block _ (ai kb8.out)).trans kb8.out) (by decide)⟩
 have KRR:Hid ((W8.alloc (.cells #[.string nm] 9)).heap[w.heap.size]?=some (.cells #[.int .i64 0,.string ⟨#[]⟩,.slice none 0 0] 41 (0,0))):=(A9.out.block _ (ai kr8.out)).trans kr8.out
 have KBB:Hid ((W8.alloc (.cells #[.string nm] 9)).heap[rb]?=some (.cells #[.int .i64 0,.string tx,.slice none 0 0] 41 (0,0))):=(A9.out.block _ (ai kb8.out)).trans kb8.out
 have hbw:¬ hb=w.heap.size:=fun e=>by have h:=S8.out.box;unfold ShBox at h;rw [e] at h;exact absurd (ah h kr8.out) (by decide)
 have hbw':¬ w.heap.size=hb:=fun e=>hbw e.symm
 have hbr:¬ hb=rb:=fun e=>by have h:=S8.out.box;unfold ShBox at h;rw [e] at h;exact absurd (ah h kb8.out) (by decide)
 have hbr':¬ rb=hb:=fun e=>hbr e.symm
 go_wp2_with (first
  | (at_builtin;refine aC _ rfl (.tmp 100) (.tmp 102) 39 rfl w0.heap.size 9 i1 (.string ⟨#[]⟩) 1 16 Tryz.underlying39 hi1 hy0 hy1 hy2 rfl (by decide) (.slice ao q co) q (aU (made.map (·.name))) (by simp [Act.eval]) RO.out ⟨W8.heap.size,0,none⟩ 1 1 [.string nm] (by simp [Act.eval]) rfl (iw W8 _ _) (by simp [Value.oneCell']) (by unfold maxLen;omega) (by omega) hbs9 ?_;intro v9 w9 hown hgrow hat;have O9:=ae hown;have G9:=ae hgrow;have AT9:=ae hat;have hb9:=ae (HG.out w9 hgrow);obtain ⟨g9,c9,cu9,rfl,hq9⟩:=hown.2.resolve_left (fun h=>by omega);clear hq9 hown hgrow hat;obtain ⟨hbl9,-,-,-,f3,-,-,-,-,-,ff⟩:=(ShBox.blk S9.out.box hb9.out.1).facts;have ff3:=ff 3;obtain ⟨rl,r0,r1,r2,rf⟩:=aE (hb9.out.2.1.trans KRR.out);have rf0:=rf 0;have rf1:=rf 1;have rf2:=rf 2;obtain ⟨pl,p0,p1,p2,pf⟩:=aE (hb9.out.2.2.trans KBB.out);clear ff rf pf)
  | fail)
 have SXX:=ae (S9.out.ord (x:=⟨nm,1,0,tx,0,[]⟩) (w':=w9) (v:=.slice (some ⟨g9,0,none⟩) (q+1) c9) (by rw [← HQ.out];exact G9.out) (by rw [← HQ.out];exact O9.out) (by rw [← HQ.out];exact AT9.out))
 refine bodyPost_ret (v:=.agg #[.int .i64 0,.string tx,.slice none 0 0]) (by simp [results,Tryz.results155,go_sem,r0,r1,r2]) rfl ?_
 have krF:=(Below.heap_setCell w9 ⟨hb,3,none⟩ (.slice (some ⟨g9,0,none⟩) (q+1) c9) w.heap.size hbw').trans (hb9.out.2.1.trans KRR.out)
 refine ⟨.slice (some ⟨g2,0,none⟩) (n+1) cp2,.slice (some ⟨g9,0,none⟩) (q+1) c9,rfl,?_,?_⟩
 ·rw [← HN.out]
  have x0:=SXX.out.1
  rw [List.set_set] at x0
  replace x0:=x0.setOff krF ⟨by decide,by decide,by decide,by decide⟩ hB0 0 (.int .i64 0)
  have y0:=an krF (j:=0) (.int .i64 0)
  have x1:=x0.setOff y0 ⟨by decide,by decide,by decide,by decide⟩ hB0 1 (.string tx)
  exact x1.setOff (an y0 (j:=1) (.string tx)) ⟨by decide,by decide,by decide,by decide⟩ hB0 2 (.slice none 0 0)
 ·have k0:=(K8.out.to (KS.of_below (X:=XN) A9.out lr S8.out.lt)).to SXX.out.2
  exact ((k0.fresh lr hB0 0 _).fresh lr hB0 1 _).fresh lr hB0 2 _
end
section
variable {w0:World}{S:Spc}{a0 a1:Option Addr}{c0 c1 hb:Nat}{md or st:Value}{making:List ByteArray}{made:List Ent}{L:List SM}
theorem tB (C:io w0 S a0 a1)(w:World)(nm:ByteArray)(h:SI w0 hb (.slice a0 S.n0 c0) (.slice a1 S.n1 c1) w making made L md or st)(hLn:L.length≤100000)(hm60:making.length=60)(h1:fI L nm=none)(hi:atL making nm=none)(tg:Nat)(h3:atI (nm1 S.f1) S.n1 nm=some tg) :
  Calls Tryz.prog 155 #[.pointer (some ⟨hb,0,none⟩),.string nm] w fun e w'=>gh w0 hb (.slice a0 S.n0 c0) (.slice a1 S.n1 c1) making L w e w' (.inr (.inr nm)):=by
 obtain ⟨im,him,hm0,hm1,hm2⟩:=dR ip
 obtain ⟨i1,hi1,hy0,hy1,hy2⟩:=dR fq
 have A0:=ae ((Below.refl w.heap.size w).alloc lr (.cells #[.int .i64 0,.string ⟨#[]⟩,.slice none 0 0] 41))
 have kr:Hid ((w.alloc (.cells #[.int .i64 0,.string ⟨#[]⟩,.slice none 0 0] 41)).heap[w.heap.size]?=some (.cells #[.int .i64 0,.string ⟨#[]⟩,.slice none 0 0] 41 (0,0))):=heap_alloc_new _ _
 have S0:=ae (h.below A0.out lr)
 have hB0:w0.heap.size≤w.heap.size:=h.lt
 have e1:cE (fI L nm)=-1:=by rw [h1];rfl
 obtain ⟨am,cm,rfl⟩:=dy h.rmd
 obtain ⟨n,hn⟩:∃ n,n=L.length:=⟨_,rfl⟩
 have HN:=ae hn
 have CC:=ae C
 have hsm:=C.ok.small
 have hn1:n≤100000:=by omega
 clear h h1 hn C
 obtain ⟨es0,es⟩:∃ z,cE (atI (nm0 S.f0) S.n0 nm)=z:=⟨_,rfl⟩
 have et:cE (atI (nm1 S.f1) S.n1 nm)=(tg:Int):=by rw [h3];rfl
 have hbef:∀ (j:Nat) (y:ByteArray),making[j]?=some y→(y.toList == nm.toList)=false:=fun j y hy=>by
  unfold atL at hi
  rw [List.findIdx?_eq_none_iff] at hi
  exact hi y (List.mem_of_getElem? hy)
 have HBF:=ae hbef
 obtain ⟨ms,hms⟩:∃ ms,ms=making.length:=⟨_,rfl⟩
 have HMS:=ae hms
 have hT0:(0:Int)≤(tg:Int):=by omega
 have hT1:=(aR h3).1
 rw [← hms] at hm60
 obtain ⟨ast,cst,rfl⟩:=dy S0.out.rst
 clear h3 hi hbef hms
 have hms60:ms=60:=by omega
 clear hm60
 go_enter Tryz.func155,Tryz.ntmps155
 go_wp2_with fail
 generalize w.alloc (.cells #[.int .i64 0,.string ⟨#[]⟩,.slice none 0 0] 41)=W0 at A0 kr S0 ⊢
 refine (fo W0 nm S0.out hLn).mono ?_
 rintro e w1 ⟨rfl,hw1⟩
 rw [hw1,e1]
 clear hw1 e1
 obtain ⟨hbl,-,-,b2,-⟩:=S0.out.box.facts
 rw [← HN.out] at b2
 have A1:=ae ((Below.refl W0.heap.size W0).alloc lr (.cells #[.string nm,.int .i64 0,.string ⟨#[]⟩,.slice none 0 0,.slice none 0 0,.bool false] 236))
 have SA:=ae (S0.out.below A1.out lr)
 have RM:=ae (by have h:=SA.out.rmd;rw [← HN.out] at h;exact h)
 have hz1:(W0.alloc (.cells #[.string nm,.int .i64 0,.string ⟨#[]⟩,.slice none 0 0,.slice none 0 0,.bool false] 236)).heap.size=W0.heap.size+1:=by simp
 have HG:Hid (∀ w2:World,(W0.alloc (.cells #[.string nm,.int .i64 0,.string ⟨#[]⟩,.slice none 0 0,.slice none 0 0,.bool false] 236)).grownBy w2 (Value.slice am n cm).ownBlock→w2.heap[hb]?=(W0.alloc (.cells #[.string nm,.int .i64 0,.string ⟨#[]⟩,.slice none 0 0,.slice none 0 0,.bool false] 236)).heap[hb]?):=fun w2 hg=>hg.block hb (by omega) fun e=>by
  obtain ⟨_,_,cs,hc⟩:=af RM.out hb e.symm
  exact absurd (ah SA.out.box hc) (by decide)
 have hbs1:w0.heap.size≤(W0.alloc (.cells #[.string nm,.int .i64 0,.string ⟨#[]⟩,.slice none 0 0,.slice none 0 0,.bool false] 236)).heap.size:=SA.out.lt
 have hz1':W0.heap.size<(W0.alloc (.cells #[.string nm,.int .i64 0,.string ⟨#[]⟩,.slice none 0 0,.slice none 0 0,.bool false] 236)).heap.size:=by omega
 clear hz1
 go_upto_region 7 with (first
  | (at_builtin;refine aC _ rfl (.tmp 46) (.tmp 49) 123 rfl w0.heap.size 236 im (.agg #[.string ⟨#[]⟩,.int .i64 0,.string ⟨#[]⟩,.slice none 0 0,.slice none 0 0,.bool false]) 6 96 Tryz.underlying123 him hm0 hm1 hm2 rfl (by decide) (.slice am n cm) n (L.flatMap smV) (by simp [Act.eval]) RM.out ⟨W0.heap.size,0,none⟩ 1 1 [.string nm,.int .i64 0,.string ⟨#[]⟩,.slice none 0 0,.slice none 0 0,.bool false] (by simp [Act.eval]) rfl (iv W0 _ _ _ _ _ _ _) (by simp [Value.oneCell']) (by unfold maxLen;omega) (by omega) hbs1 ?_;intro v2 w2 hown hgrow hat;have O2:=ae hown;have G2:=ae hgrow;have hb2:=ae (HG.out w2 hgrow);obtain ⟨g2,cp2,cu2,rfl,hq2⟩:=hown.2.resolve_left (fun h=>by omega);clear hq2 hown hgrow hat;obtain ⟨hbl2,-,-,f2,-,-,-,-,-,-,ff⟩:=(ShBox.blk SA.out.box hb2.out).facts;have ff2:=ff 2;clear ff)
  | fail)
 have SX:=ae (SA.out.addL (m:=cF nm) (w':=w2) (v:=.slice (some ⟨g2,0,none⟩) (n+1) cp2) (by rw [← HN.out];exact G2.out) (by rw [← HN.out];exact O2.out) rfl)
 have S3:=ae SX.out.1
 have K3:Hid (KS w0.heap.size XN w (w2.setCell ⟨hb,2,none⟩ (.slice (some ⟨g2,0,none⟩) (n+1) cp2))):=((KS.of_below (X:=XN) A0.out lr hB0).to (KS.of_below A1.out lr S0.out.lt)).to SX.out.2
 have kr3:Hid ((w2.setCell ⟨hb,2,none⟩ (.slice (some ⟨g2,0,none⟩) (n+1) cp2)).heap[w.heap.size]?=some (.cells #[.int .i64 0,.string ⟨#[]⟩,.slice none 0 0] 41 (0,0))):=by
  have h0:=(A1.out.block _ (ai kr.out)).trans kr.out
  exact (SX.out.2.blk _ _ _ _ h0 (by decide) (by decide) (by decide) fun h=>h).trans h0
 have hL1:(L++[cF nm]).length=n+1:=by rw [List.length_append,List.length_singleton,← HN.out]
 have hLk:Hid ((L++[cF nm])[n]?=some (cF nm)):=by rw [HN.out];show _=_;rw [List.getElem?_append_right lr,Nat.sub_self];rfl
 clear SX f2 ff2 hbl2 b2 hbl RM SA A1 HG O2 G2 hb2
 generalize w2.setCell ⟨hb,2,none⟩ (.slice (some ⟨g2,0,none⟩) (n+1) cp2)=W3 at S3 K3 kr3 ⊢
 obtain ⟨hbl,b0,b1,-⟩:=S3.out.box.facts
 go_wp2_with fail
 refine (dS a0 S.n0 c0 a1 S.n1 c1 S.f0 nm W3 (by omega) (CC.out.src.below S3.out.bel lr)).mono ?_
 rintro e w4 ⟨he,hB⟩
 rw [es] at he
 subst he
 have S4:=ae (S3.out.below hB lr)
 have kr4:Hid (w4.heap[w.heap.size]?=_):=(hB.block _ (ai kr3.out)).trans kr3.out
 have K4:=ae (K3.out.to (KS.of_below (X:=XN) hB lr S3.out.lt))
 clear hB b0 b1 hbl S3 K3 kr3
 obtain ⟨hbl,b0,b1,-⟩:=S4.out.box.facts
 go_wp2_with fail
 refine (dT a0 S.n0 c0 a1 S.n1 c1 S.f1 nm w4 (by omega) (CC.out.tgt.below S4.out.bel lr)).mono ?_
 rintro e w5 ⟨he,hB⟩
 rw [et] at he
 subst he
 have S5:=ae (S4.out.below hB lr)
 have kr5:Hid (w5.heap[w.heap.size]?=some (.cells #[.int .i64 0,.string ⟨#[]⟩,.slice none 0 0] 41 (0,0))):=(hB.block _ (ai kr4.out)).trans kr4.out
 have K5:=ae (K4.out.to (KS.of_below (X:=XN) hB lr S4.out.lt))
 clear hB b0 b1 hbl S4 K4 kr4 A0 S0 kr
 obtain ⟨hbl,-,-,-,-,b4,b5,b6,b7,b8,bf⟩:=S5.out.box.facts
 have bf4:=bf 4
 have bf5:=bf 5
 have bf6:=bf 6
 have bf7:=bf 7
 have bf8:=bf 8
 rw [← HMS.out] at b4
 clear bf
 go_wp2_with fail
 go_loop [9] (fun i=>∃ j:Nat,j≤ms∧i=.int .i64 j) (fun i=>ms - (intOf i).toNat)
 case atStart=>exact ⟨0,by omega,rfl⟩
 case round =>
 obtain ⟨j,hj,rfl⟩:=hrel
 by_cases hlt:j<ms
 ·obtain ⟨y,hy⟩:∃ y,making[j]?=some y:=⟨_,List.getElem?_eq_getElem (by have:=HMS.out;omega)⟩
  obtain ⟨gs,cs,cus,ev,-⟩:=S5.out.rst.2.resolve_left (fun h=>by have:=HMS.out;omega)
  rw [← HMS.out] at ev
  cases ev
  have dj:w5.cell? ⟨gs,j,none⟩=some (.string y):=jP S5.out.rst hy
  have hjm:(j:Int)<(ms:Int):=by omega
  have HNE:=ae (HBF.out j y hy)
  clear hy
  have hne:=HNE.out
  go_wp2
  exact ⟨⟨j+1,by omega,by go_num⟩,by simp [intOf];omega⟩
 obtain rfl:j=ms:=by omega
 ·subst hms60
  have hbw:¬ hb=w.heap.size:=fun e=>by have h:=S5.out.box;unfold ShBox at h;rw [e] at h;exact absurd (ah h kr5.out) (by decide)
  have hbw':¬ w.heap.size=hb:=fun e=>hbw e.symm
  obtain ⟨rl,r0,r1,r2,rf⟩:=aE kr5.out
  have rf0:=rf 0
  have rf1:=rf 1
  have rf2:=rf 2
  clear rf
  go_wp2_with fail
  refine bodyPost_ret (v:=.agg #[.int .i64 7,.string nm,.slice none 0 0]) (by simp [results,Tryz.results155,go_sem,r0,r1,r2]) rfl ?_
  have bx8:=an S5.out.box (j:=8) (.bool true)
  have bx5:=an bx8 (j:=5) (.int .i64 7)
  have bx6:=an bx5 (j:=6) (.string nm)
  have bx7:=an bx6 (j:=7) (.slice none 0 0)
  have hhB:w0.heap.size≤hb:=S5.out.hbB
  have k8:=(((K5.out.to (KS.setCell (X:=XN) _ hhB (.inr fun cs t fz hc=>.inr (.inr (ah hc S5.out.box))) (.bool true) (j:=8))).to (KS.setCell (X:=XN) _ hhB (.inr fun cs t fz hc=>.inr (.inr (ah hc bx8))) (.int .i64 7) (j:=5))).to (KS.setCell (X:=XN) _ hhB (.inr fun cs t fz hc=>.inr (.inr (ah hc bx5))) (.string nm) (j:=6))).to (KS.setCell (X:=XN) _ hhB (.inr fun cs t fz hc=>.inr (.inr (ah hc bx6))) (.slice none 0 0) (j:=7))
  refine ⟨rfl,⟨_,_,_,_,_,(Below.heap_setCell _ _ _ _ hbw).trans ((Below.heap_setCell _ _ _ _ hbw).trans ((Below.heap_setCell _ _ _ _ hbw).trans bx7)),⟨rfl,.inl ⟨rfl,rfl⟩⟩⟩,?_⟩
  exact ((k8.fresh lr hB0 0 _).fresh lr hB0 1 _).fresh lr hB0 2 _
end
theorem xp {z:Int}(h0:0≤z)(h1:z≤1048576):IntKind.i64.wrap z=z:=by
 rw [IntKind.wrap_i64]
 omega
theorem wP {w w':World}{B n:Nat}{v:Value}{xs:List Value}(h:w.ownsRow B 239 3 v n xs)(hk:KS B XN w w'):w'.ownsRow B 239 3 v n xs:=bg h fun k e=>by
 obtain ⟨_,_,cs,hc⟩:=af h k e
 exact hk.blk _ _ _ _ hc (by decide) (by decide) (by decide) fun h=>h
theorem LExt.add (n:Nat)(L:List SM){m:SM}(hd:m.done=false):LExt n L (L++[m]):=by
 refine ⟨fun i m2 hm=>⟨m2,?_,rfl⟩,fun m2 hm hd2=>?_⟩
 ·rw [List.getElem?_append_left (List.getElem?_eq_some_iff.1 hm).1]
  exact hm
 ·rcases List.mem_append.1 hm with hm | hm
  ·exact .inl ⟨m2,hm,hd2,rfl⟩
  ·rw [List.mem_singleton.1 hm,hd] at hd2
   cases hd2
theorem LExt.set {n k:Nat}{L L1:List SM}{m m':SM}(h:LExt n L L1)(hk:L1[k]?=some m)(hm:m'.name=m.name)(hs:∀ j,m'.sv.ownBlock=some j→n≤j):LExt n L (L1.set k m'):=by
 refine ⟨fun i m2 hm2=>?_,fun m2 hm2 hd2=>?_⟩
 ·obtain ⟨m3,h3,e3⟩:=h.nam i m2 hm2
  by_cases hik:k=i
  ·subst hik
   rw [hk] at h3
   cases h3
   exact ⟨m',List.getElem?_set_self (List.getElem?_eq_some_iff.1 hk).1,hm.trans e3⟩
  ·exact ⟨m3,by rw [List.getElem?_set_ne hik];exact h3,e3⟩
 ·rcases List.mem_or_eq_of_mem_set hm2 with hm3 | rfl
  ·exact h.sn m2 hm3 hd2
  ·exact .inr hs
section
variable {w0:World}{S:Spc}{a0 a1:Option Addr}{c0 c1 hb:Nat}{md or st:Value}{making:List ByteArray}{made:List Ent}{L:List SM}
theorem uU (C:io w0 S a0 a1)(n':Nat)(HK:i8 w0 S hb (.slice a0 S.n0 c0) (.slice a1 S.n1 c1) n')(w:World)(nm:ByteArray)(hlen:making.length+(n'+1)=60)(h:SI w0 hb (.slice a0 S.n0 c0) (.slice a1 S.n1 c1) w making made L md or st)(hrel:ep L making made)(hp:PG S making made)(hroom:eo S making made 1)(hmt:MT S making)(h0:aA made nm=none)(hi:atL making nm=none)(tg:Nat)(h3:atI (nm1 S.f1) S.n1 nm=some tg) :
  Calls Tryz.prog 155 #[.pointer (some ⟨hb,0,none⟩),.string nm] w fun e w'=>gh w0 hb (.slice a0 S.n0 c0) (.slice a1 S.n1 c1) making L w e w' (ga nm tg (bD S (aG S n' (making++[nm])) tg 201 made [] [])):=by
 obtain ⟨h1,hne⟩:=tz hrel h0 hi
 have hmade:made.length≤50000:=by unfold eo at hroom;omega
 have hLn:L.length≤100000:=by have:=hrel.len;omega
 have hm60:making.length<60:=by omega
 have hT1:=(aR h3).1
 obtain ⟨R,hR⟩:∃ R,R=bD S (aG S n' (making++[nm])) tg 201 made [] []:=⟨_,rfl⟩
 have HR:=ae hR
 obtain ⟨tb,tof,ha1,hrow⟩:=C.tgt.resolve_left (by omega)
 have HA1:=ae ha1
 have HROW:=ae hrow
 have HRUN:Hid (∀ (W:World) (md' or' st':Value) (a:Option Addr) (cap:Nat),SI w0 hb (.slice a0 S.n0 c0) (.slice a1 S.n1 c1) W (making++[nm]) made (L++[cF nm]) md' or' st'→SlIns w0 a (S.f1 tg).actN (S.f1 tg).act→Calls Tryz.prog 197 #[.pointer (some ⟨hb,0,none⟩),.agg #[.slice a (S.f1 tg).actN cap]] W fun e w'=>oz w0 hb (.slice a0 S.n0 c0) (.slice a1 S.n1 c1) (making++[nm]) (L++[cF nm]) W e w' R):=by
  intro W md' or' st' a cap hS hsl
  rw [hR]
  refine uQ C n' HK made _ md' or' st' W a cap tg (by rw [List.length_append,List.length_singleton];omega) hS (me hrel hne rfl rfl) (fm hp h0) ?_ ?_ hT1 hsl
  ·have:=eB hT1 (aR h3).2 h0 hi
   unfold eo at hroom ⊢
   omega
  ·intro t ht
   rcases List.mem_append.1 ht with ht | ht
   ·exact hmt t ht
   ·rw [List.mem_singleton.1 ht,h3];rfl
 have HI:=ae hi
 have H0:=ae h0
 have HGD:Hid (∀ made1 x,R=.inl (made1,x)→made1.length≤100000∧∀ y∈made1,y.name≠nm):=by
  intro made1 x he
  rw [hR] at he
  have g1:=eN C.ok hT1 (ci C.ok n' (making++[nm])) _ _ _ _ _ _ (fm hp h0) (fa S made) rfl he
  have g2:=lR (fun made nm2 made' e=>eZ S n' (making++[nm]) made nm2 made' e) _ _ _ _ _ _ he
  have g3:=eB hT1 (aR h3).2 h0 hi
  refine ⟨?_,(fU g1.1).2⟩
  unfold dZ at g2
  unfold eo at hroom
  omega
 have HNE:=ae hne
 have HREL:=ae hrel
 rw [← hR]
 clear HK hp hroom hmt h0 hrow ha1 hR hne hrel
 obtain ⟨im,him,hm0,hm1,hm2⟩:=dR ip
 obtain ⟨i1,hi1,hy0,hy1,hy2⟩:=dR fq
 have A0:=ae ((Below.refl w.heap.size w).alloc lr (.cells #[.int .i64 0,.string ⟨#[]⟩,.slice none 0 0] 41))
 have kr:Hid ((w.alloc (.cells #[.int .i64 0,.string ⟨#[]⟩,.slice none 0 0] 41)).heap[w.heap.size]?=some (.cells #[.int .i64 0,.string ⟨#[]⟩,.slice none 0 0] 41 (0,0))):=heap_alloc_new _ _
 have S0:=ae (h.below A0.out lr)
 have hB0:w0.heap.size≤w.heap.size:=h.lt
 have e1:cE (fI L nm)=-1:=by rw [h1];rfl
 obtain ⟨am,cm,rfl⟩:=dy h.rmd
 obtain ⟨n,hn⟩:∃ n,n=L.length:=⟨_,rfl⟩
 have HN:=ae hn
 have CC:=ae C
 have hsm:=C.ok.small
 have hn1:n≤100000:=by omega
 clear h h1 hn C
 obtain ⟨es0,es⟩:∃ z,cE (atI (nm0 S.f0) S.n0 nm)=z:=⟨_,rfl⟩
 clear hT1
 have et:cE (atI (nm1 S.f1) S.n1 nm)=(tg:Int):=by rw [h3];rfl
 have hbef:∀ (j:Nat) (y:ByteArray),making[j]?=some y→(y.toList == nm.toList)=false:=fun j y hy=>by
  unfold atL at hi
  rw [List.findIdx?_eq_none_iff] at hi
  exact hi y (List.mem_of_getElem? hy)
 have HBF:=ae hbef
 obtain ⟨ms,hms⟩:∃ ms,ms=making.length:=⟨_,rfl⟩
 have HMS:=ae hms
 have hT0:(0:Int)≤(tg:Int):=by omega
 have hT1:=(aR h3).1
 rw [← hms] at hm60
 obtain ⟨ast,cst,rfl⟩:=dy S0.out.rst
 clear h3 hi hbef hms
 clear hlen
 go_enter Tryz.func155,Tryz.ntmps155
 go_wp2_with fail
 generalize w.alloc (.cells #[.int .i64 0,.string ⟨#[]⟩,.slice none 0 0] 41)=W0 at A0 kr S0 ⊢
 refine (fo W0 nm S0.out hLn).mono ?_
 rintro e w1 ⟨rfl,hw1⟩
 rw [hw1,e1]
 clear hw1 e1
 obtain ⟨hbl,-,-,b2,-⟩:=S0.out.box.facts
 rw [← HN.out] at b2
 have A1:=ae ((Below.refl W0.heap.size W0).alloc lr (.cells #[.string nm,.int .i64 0,.string ⟨#[]⟩,.slice none 0 0,.slice none 0 0,.bool false] 236))
 have SA:=ae (S0.out.below A1.out lr)
 have RM:=ae (by have h:=SA.out.rmd;rw [← HN.out] at h;exact h)
 have hz1:(W0.alloc (.cells #[.string nm,.int .i64 0,.string ⟨#[]⟩,.slice none 0 0,.slice none 0 0,.bool false] 236)).heap.size=W0.heap.size+1:=by simp
 have HG:Hid (∀ w2:World,(W0.alloc (.cells #[.string nm,.int .i64 0,.string ⟨#[]⟩,.slice none 0 0,.slice none 0 0,.bool false] 236)).grownBy w2 (Value.slice am n cm).ownBlock→w2.heap[hb]?=(W0.alloc (.cells #[.string nm,.int .i64 0,.string ⟨#[]⟩,.slice none 0 0,.slice none 0 0,.bool false] 236)).heap[hb]?):=fun w2 hg=>hg.block hb (by omega) fun e=>by
  obtain ⟨_,_,cs,hc⟩:=af RM.out hb e.symm
  exact absurd (ah SA.out.box hc) (by decide)
 have hbs1:w0.heap.size≤(W0.alloc (.cells #[.string nm,.int .i64 0,.string ⟨#[]⟩,.slice none 0 0,.slice none 0 0,.bool false] 236)).heap.size:=SA.out.lt
 have hz1':W0.heap.size<(W0.alloc (.cells #[.string nm,.int .i64 0,.string ⟨#[]⟩,.slice none 0 0,.slice none 0 0,.bool false] 236)).heap.size:=by omega
 clear hz1
 go_upto_region 7 with (first
  | (at_builtin;refine aC _ rfl (.tmp 46) (.tmp 49) 123 rfl w0.heap.size 236 im (.agg #[.string ⟨#[]⟩,.int .i64 0,.string ⟨#[]⟩,.slice none 0 0,.slice none 0 0,.bool false]) 6 96 Tryz.underlying123 him hm0 hm1 hm2 rfl (by decide) (.slice am n cm) n (L.flatMap smV) (by simp [Act.eval]) RM.out ⟨W0.heap.size,0,none⟩ 1 1 [.string nm,.int .i64 0,.string ⟨#[]⟩,.slice none 0 0,.slice none 0 0,.bool false] (by simp [Act.eval]) rfl (iv W0 _ _ _ _ _ _ _) (by simp [Value.oneCell']) (by unfold maxLen;omega) (by omega) hbs1 ?_;intro v2 w2 hown hgrow hat;have O2:=ae hown;have G2:=ae hgrow;have hb2:=ae (HG.out w2 hgrow);obtain ⟨g2,cp2,cu2,rfl,hq2⟩:=hown.2.resolve_left (fun h=>by omega);clear hq2 hown hgrow hat;obtain ⟨hbl2,-,-,f2,-,-,-,-,-,-,ff⟩:=(ShBox.blk SA.out.box hb2.out).facts;have ff2:=ff 2;clear ff)
  | fail)
 have SX:=ae (SA.out.addL (m:=cF nm) (w':=w2) (v:=.slice (some ⟨g2,0,none⟩) (n+1) cp2) (by rw [← HN.out];exact G2.out) (by rw [← HN.out];exact O2.out) rfl)
 have S3:=ae SX.out.1
 have K3:Hid (KS w0.heap.size XN w (w2.setCell ⟨hb,2,none⟩ (.slice (some ⟨g2,0,none⟩) (n+1) cp2))):=((KS.of_below (X:=XN) A0.out lr hB0).to (KS.of_below A1.out lr S0.out.lt)).to SX.out.2
 have kr3:Hid ((w2.setCell ⟨hb,2,none⟩ (.slice (some ⟨g2,0,none⟩) (n+1) cp2)).heap[w.heap.size]?=some (.cells #[.int .i64 0,.string ⟨#[]⟩,.slice none 0 0] 41 (0,0))):=by
  have h0:=(A1.out.block _ (ai kr.out)).trans kr.out
  exact (SX.out.2.blk _ _ _ _ h0 (by decide) (by decide) (by decide) fun h=>h).trans h0
 have hL1:(L++[cF nm]).length=n+1:=by rw [List.length_append,List.length_singleton,← HN.out]
 have hLk:Hid ((L++[cF nm])[n]?=some (cF nm)):=by rw [HN.out];show _=_;rw [List.getElem?_append_right lr,Nat.sub_self];rfl
 clear SX f2 ff2 hbl2 b2 hbl RM SA A1 HG O2 G2 hb2
 generalize w2.setCell ⟨hb,2,none⟩ (.slice (some ⟨g2,0,none⟩) (n+1) cp2)=W3 at S3 K3 kr3 ⊢
 obtain ⟨hbl,b0,b1,-⟩:=S3.out.box.facts
 go_wp2_with fail
 refine (dS a0 S.n0 c0 a1 S.n1 c1 S.f0 nm W3 (by omega) (CC.out.src.below S3.out.bel lr)).mono ?_
 rintro e w4 ⟨he,hB⟩
 rw [es] at he
 subst he
 have S4:=ae (S3.out.below hB lr)
 have kr4:Hid (w4.heap[w.heap.size]?=_):=(hB.block _ (ai kr3.out)).trans kr3.out
 have K4:=ae (K3.out.to (KS.of_below (X:=XN) hB lr S3.out.lt))
 clear hB b0 b1 hbl S3 K3 kr3
 obtain ⟨hbl,b0,b1,-⟩:=S4.out.box.facts
 go_wp2_with fail
 refine (dT a0 S.n0 c0 a1 S.n1 c1 S.f1 nm w4 (by omega) (CC.out.tgt.below S4.out.bel lr)).mono ?_
 rintro e w5 ⟨he,hB⟩
 rw [et] at he
 subst he
 have S5:=ae (S4.out.below hB lr)
 have kr5:Hid (w5.heap[w.heap.size]?=some (.cells #[.int .i64 0,.string ⟨#[]⟩,.slice none 0 0] 41 (0,0))):=(hB.block _ (ai kr4.out)).trans kr4.out
 have K5:=ae (K4.out.to (KS.of_below (X:=XN) hB lr S4.out.lt))
 clear hB b0 b1 hbl S4 K4 kr4 A0 S0 kr
 obtain ⟨hbl,-,-,-,-,b4,b5,b6,b7,b8,bf⟩:=S5.out.box.facts
 have bf4:=bf 4
 have bf5:=bf 5
 have bf6:=bf 6
 have bf7:=bf 7
 have bf8:=bf 8
 rw [← HMS.out] at b4
 clear bf
 go_wp2_with fail
 go_loop [9] (fun i=>∃ j:Nat,j≤ms∧i=.int .i64 j) (fun i=>ms - (intOf i).toNat)
 case atStart=>exact ⟨0,by omega,rfl⟩
 case round =>
 obtain ⟨j,hj,rfl⟩:=hrel
 by_cases hlt:j<ms
 ·obtain ⟨y,hy⟩:∃ y,making[j]?=some y:=⟨_,List.getElem?_eq_getElem (by have:=HMS.out;omega)⟩
  obtain ⟨gs,cs,cus,ev,-⟩:=S5.out.rst.2.resolve_left (fun h=>by have:=HMS.out;omega)
  rw [← HMS.out] at ev
  cases ev
  have dj:w5.cell? ⟨gs,j,none⟩=some (.string y):=jP S5.out.rst hy
  have hjm:(j:Int)<(ms:Int):=by omega
  have HNE:=ae (HBF.out j y hy)
  clear hy
  have hne:=HNE.out
  go_wp2
  exact ⟨⟨j+1,by omega,by go_num⟩,by simp [intOf];omega⟩
 obtain rfl:j=ms:=by omega
 ·have hI60:¬ (60:Int)≤(j:Int):=by omega
  clear b5 b6 b7 b8 bf5 bf6 bf7 bf8
  have A6:=ae ((Below.refl w5.heap.size w5).alloc lr (.cells #[.string nm] 9))
  have S6:=ae (S5.out.below A6.out lr)
  have RS:=ae (by have h:=S6.out.rst;rw [← HMS.out] at h;exact h)
  have hbs6:w0.heap.size≤(w5.alloc (.cells #[.string nm] 9)).heap.size:=S6.out.lt
  obtain ⟨q0,aa,ca,q1,-⟩:=(HROW.out.below S6.out.bel lr).2 tg hT1
  obtain ⟨-,aa',ca',q1',hsl⟩:=HROW.out.2 tg hT1
  have htb0:=HROW.out.1
  have e1:=(S6.out.bel.cell (p:=⟨tb,tof+tg*2+1,none⟩) htb0).trans q1'
  rw [q1] at e1
  simp only [Option.some.injEq,Value.slice.injEq,true_and] at e1
  obtain ⟨rfl,rfl⟩:=e1
  have HSL:=ae hsl
  have Q1:=ae q1
  clear q0 q1 q1' hsl
  have KR6:Hid ((w5.alloc (.cells #[.string nm] 9)).heap[w.heap.size]?=some (.cells #[.int .i64 0,.string ⟨#[]⟩,.slice none 0 0] 41 (0,0))):=(A6.out.block _ (ai kr5.out)).trans kr5.out
  have HG:Hid (∀ w2:World,(w5.alloc (.cells #[.string nm] 9)).grownBy w2 (Value.slice ast j cst).ownBlock→w2.heap[hb]?=(w5.alloc (.cells #[.string nm] 9)).heap[hb]?∧w2.heap[tb]?=(w5.alloc (.cells #[.string nm] 9)).heap[tb]?):=fun w2 hg=>by
   refine ⟨hg.block hb (ai S6.out.box) fun e=>?_,hg.block tb (ll htb0 hbs6) fun e=>?_⟩
   ·obtain ⟨_,_,cs2,hc⟩:=af RS.out hb e.symm
    exact absurd (ah S6.out.box hc) (by decide)
   ·have:=(af RS.out tb e.symm).1
    omega
  have hBB:w0.heap.size≤hb:=S5.out.hbB
  have htbh:¬ tb=hb:=by omega
  have htbh':¬ hb=tb:=by omega
  have htI:(tg:Int)<(S.n1:Int):=by omega
  go_wp2_with (first
   | (at_builtin;refine aC _ rfl (.tmp 166) (.tmp 168) 39 rfl w0.heap.size 9 i1 (.string ⟨#[]⟩) 1 16 Tryz.underlying39 hi1 hy0 hy1 hy2 rfl (by decide) (.slice ast j cst) j (aU making) (by simp [Act.eval]) RS.out ⟨w5.heap.size,0,none⟩ 1 1 [.string nm] (by simp [Act.eval]) rfl (iw w5 _ _) (by simp [Value.oneCell']) (by unfold maxLen;omega) (by omega) hbs6 ?_;intro v7 w7 hown hgrow hat;have O7:=ae hown;have G7:=ae hgrow;have AT7:=ae hat;have hb7:=ae (HG.out w7 hgrow);obtain ⟨g7,c7,cu7,rfl,hq7⟩:=hown.2.resolve_left (fun h=>by omega);clear hq7 hown hgrow hat;obtain ⟨hbl7,-,f1,-,-,f4,-,-,-,-,ff⟩:=(ShBox.blk S6.out.box hb7.out.1).facts;have ff4:=ff 4;rw [HA1.out] at f1;have f9:=(World.cell?_of_block (a:=⟨tb,tof+tg*2+1,none⟩) hb7.out.2).trans Q1.out;have htl:tb<w7.heap.size:=(ll (ll htb0 hBB) (Nat.le_of_lt hbl7));clear ff)
   | fail)
  have SP:=ae (S6.out.push (nm:=nm) (w':=w7) (v:=.slice (some ⟨g7,0,none⟩) (j+1) c7) (by rw [← HMS.out];exact G7.out) (by rw [← HMS.out];exact O7.out) (by rw [← HMS.out];exact AT7.out))
  have S7:=ae SP.out.1
  have K7:Hid (KS w0.heap.size XN w (w7.setCell ⟨hb,4,none⟩ (.slice (some ⟨g7,0,none⟩) (j+1) c7))):=(K5.out.to (KS.of_below (X:=XN) A6.out lr S5.out.lt)).to SP.out.2
  have kr7:Hid ((w7.setCell ⟨hb,4,none⟩ (.slice (some ⟨g7,0,none⟩) (j+1) c7)).heap[w.heap.size]?=some (.cells #[.int .i64 0,.string ⟨#[]⟩,.slice none 0 0] 41 (0,0))):=(SP.out.2.blk _ _ _ _ KR6.out (by decide) (by decide) (by decide) fun h=>h).trans KR6.out
  clear SP f1 f4 f9 ff4 hbl7 htl O7 G7 AT7 hb7 HG RS S6 A6 KR6 Q1 S5 K5 kr5 b4 bf4 hbl
  generalize w7.setCell ⟨hb,4,none⟩ (.slice (some ⟨g7,0,none⟩) (j+1) c7)=W7 at S7 K7 kr7 ⊢
  refine (HRUN.out W7 _ _ _ aa ca S7.out HSL.out).mono ?_
  clear HRUN
  rintro e w8 hpost
  rcases R with ⟨made1,x⟩ | c | d
  ·obtain ⟨L1,md1,or1,st1,gx,cx,rfl,hS8,hrel8,hO8,hno8,hX8,hK8⟩:=hpost
   obtain ⟨hmd1,hne1⟩:=HGD.out made1 x rfl
   clear HGD
   obtain ⟨rc,hrc⟩:∃ rc,rc=x.1.code:=⟨_,rfl⟩
   obtain ⟨rt,hrt⟩:∃ rt,rt=x.1.text:=⟨_,rfl⟩
   obtain ⟨ls,hls⟩:∃ ls,ls=x.2:=⟨_,rfl⟩
   obtain ⟨ln,hln⟩:∃ ln,ln=ls.length:=⟨_,rfl⟩
   have hfin:ga nm tg (.inl (made1,x))=.inl ((made1++[⟨nm,3,rc,rt,tg,ls⟩]),⟨nm,3,rc,rt,tg,ls⟩):=by rw [hrc,hrt,hls];rfl
   have HFIN:=ae hfin
   rw [← hls,← hln] at hO8
   rw [← hrc,← hrt,← hls,← hln]
   clear hfin hrc hrt hls
   have HLNE:=ae hln
   clear hln
   obtain ⟨m1,hm1,hm1n⟩:=hX8.nam n (cF nm) hLk.out
   replace hm1n:m1.name=nm:=hm1n
   have HD1:Hid (m1.done=false):=by
    obtain ⟨m2,hm2,e2,e3⟩:=hrel8.mkg nm (List.mem_append_right _ (List.mem_singleton.2 rfl))
    obtain ⟨i2,hi2⟩:=List.getElem?_of_mem hm2
    have e4:=pU hrel8.nod hi2 hm1 (e2.trans hm1n.symm)
    rw [e4,hm1] at hi2
    cases hi2
    exact e3
   have hLk:=ae hm1
   obtain ⟨N,hN⟩:∃ N,N=L1.length:=⟨_,rfl⟩
   have hL1:L1.length=N:=hN.symm
   have hnN:n<N:=by rw [hN];exact (List.getElem?_eq_some_iff.1 hm1).1
   obtain ⟨gm,cm1,cum,rfl,-⟩:=hS8.rmd.2.resolve_left (fun h=>by omega)
   obtain ⟨gp,cpp,cup,rfl,hcl⟩:=hS8.rst.2.resolve_left (fun h=>by rw [List.length_append,List.length_singleton] at h;omega)
   have hcp:j+1≤cpp:=by have:=hcl.2.2.1;rw [List.length_append,List.length_singleton,← HMS.out] at this;exact this
   rw [hL1,List.length_append,List.length_singleton,← HMS.out] at hS8
   have KW:=ae (K7.out.to hK8)
   have kr8:Hid (w8.heap[w.heap.size]?=some (.cells #[.int .i64 0,.string ⟨#[]⟩,.slice none 0 0] 41 (0,0))):=(hK8.blk _ _ _ _ kr7.out (by decide) (by decide) (by decide) fun h=>h).trans kr7.out
   have hw7:w.heap.size≤W7.heap.size:=K7.out.below.size
   have X8:=ae (((LExt.add w.heap.size L (m:=cF nm) rfl).trans hX8 hw7))
   have HGX:Hid (w.heap.size≤gx):=Nat.le_trans hw7 (af hO8 gx rfl).1
   have OS0:=ae (aT hO8 (Nat.le_trans hB0 hw7))
   have REL8:=ae hrel8
   have hw8:w.heap.size≤w8.heap.size:=KW.out.below.size
   have S8a:=ae hS8
   have HM1N:=ae hm1n
   have HNE1:=ae hne1
   clear hS8 hrel8 hO8 hno8 hX8 hK8 hm1n hm1 hne1 hcl S7 K7 kr7 hN
   have A9:=ae ((Below.refl w8.heap.size w8).alloc lr (.cells #[.int .i64 rc,.string rt,.slice none 0 0] 41))
   have kb:Hid ((w8.alloc (.cells #[.int .i64 rc,.string rt,.slice none 0 0] 41)).heap[w8.heap.size]?=some (.cells #[.int .i64 rc,.string rt,.slice none 0 0] 41 (0,0))):=heap_alloc_new _ _
   have S9a:=ae (S8a.out.below A9.out lr)
   have K9:=ae (KS.of_below (X:=XN) A9.out lr S8a.out.lt)
   have kr9:Hid ((w8.alloc (.cells #[.int .i64 rc,.string rt,.slice none 0 0] 41)).heap[w.heap.size]?=some (.cells #[.int .i64 0,.string ⟨#[]⟩,.slice none 0 0] 41 (0,0))):=(A9.out.block _ (ai kr8.out)).trans kr8.out
   go_upto_region 30 with fail
   generalize w8.alloc (.cells #[.int .i64 rc,.string rt,.slice none 0 0] 41)=W9 at A9 kb S9a K9 kr9 ⊢
   obtain ⟨rb,hrb⟩:∃ rb,rb=w8.heap.size:=⟨_,rfl⟩
   rw [← hrb] at kb ⊢
   have hrbw:w.heap.size≤rb:=by omega
   clear hrb A9 S8a kr8
   obtain ⟨hbl,-,-,-,-,b4,-,-,-,b8,bf⟩:=S9a.out.box.facts
   have bf4:=bf 4
   clear bf
   go_upto_region 32 with fail
   have hwr:IntKind.i64.wrap (j:Int)=(j:Int):=xp (by omega) (by omega)
   have hJ0:(0:Int)≤(j:Int):=by omega
   have hJ1:(j:Int)≤(cpp:Int):=by omega
   refine aN (fun V=>V.cell? ⟨hb,4,none⟩=some (.slice (some ⟨gp,0,none⟩) (j+1) cpp)) 14 (by as_aux_lemma=>kernel_rfl) ?_
   have HS:Hid (W9.drew.cell? ⟨hb,4,none⟩=some (.slice (some ⟨gp,0,none⟩) (j+1) cpp)):=b4
   iterate 10
    refine aF 0 (v:=?_) rfl rfl (by as_aux_lemma=>kernel_rfl) (fun _ _ _ h=>h) rfl ?_ HS.out ?_
    rotate_left
    ·(intro wz s0;go_simp)
     (try with_reducible rfl)
    (try simp only [Act.put,nzL])
   refine dX (i:=10) (v:=.int .i64 (j:Int)) rfl (by as_aux_lemma=>kernel_rfl) (by as_aux_lemma=>kernel_rfl) (by as_aux_lemma=>kernel_rfl) (by as_aux_lemma=>kernel_rfl) (fun _ _ _ h=>h) rfl ?_ HS.out ?_
   ·intro wz s0
    go_simp
   (try simp only [Act.put,nzL])
   refine dX (i:=11) (v:=.slice (some ⟨gp,0,none⟩) j cpp) rfl (by as_aux_lemma=>kernel_rfl) (by as_aux_lemma=>kernel_rfl) (by as_aux_lemma=>kernel_rfl) (by as_aux_lemma=>kernel_rfl) (fun _ _ _ h=>h) rfl ?_ HS.out ?_
   ·intro wz s0
    go_simp
   (try simp only [Act.put,nzL])
   iterate 2
    refine cj 12 rfl rfl (by as_aux_lemma=>kernel_rfl) (fun K hK=>?_)
    go_simp
    refine hK.out _ _ (fun _=>HS.out) ?_
    clear hK K
    (try simp only [Act.put,nzL])
   have PP:Hid (SI w0 hb (.slice a0 S.n0 c0) (.slice a1 S.n1 c1) (W9.setCell ⟨hb,4,none⟩ (.slice (some ⟨gp,0,none⟩) j cpp)) making made1 L1 (.slice (some ⟨gm,0,none⟩) N cm1) or1 (.slice (some ⟨gp,0,none⟩) j cpp)∧KS w0.heap.size XN W9 (W9.setCell ⟨hb,4,none⟩ (.slice (some ⟨gp,0,none⟩) j cpp))):=by
    have h:=S9a.out
    rw [HMS.out] at h ⊢
    exact h.pop
   refine aj (i:=14) rfl (by as_aux_lemma=>kernel_rfl) (fun K hK=>?_)
   go_simp
   refine hK.out _ _ (fun h=>absurd rfl h) ?_
   clear hK K HS b4 bf4 b8
   (try simp only [Act.put])
   refine bc (by as_aux_lemma=>kernel_rfl) ?_ _
   have D6:Hid (Below (W9.setCell ⟨hb,4,none⟩ (.slice (some ⟨gp,0,none⟩) j cpp)).heap.size (W9.setCell ⟨hb,4,none⟩ (.slice (some ⟨gp,0,none⟩) j cpp)) (W9.setCell ⟨hb,4,none⟩ (.slice (some ⟨gp,0,none⟩) j cpp)).drew):=br.drew
   have S6:=ae (PP.out.1.below D6.out lr)
   have K6:=ae ((K9.out.to PP.out.2).to (KS.of_below (X:=XN) D6.out lr PP.out.1.lt))
   have kr6:Hid ((W9.setCell ⟨hb,4,none⟩ (.slice (some ⟨gp,0,none⟩) j cpp)).drew.heap[w.heap.size]?=some (.cells #[.int .i64 0,.string ⟨#[]⟩,.slice none 0 0] 41 (0,0))):=(PP.out.2.blk _ _ _ _ kr9.out (by decide) (by decide) (by decide) fun h=>h).trans kr9.out
   have kb0:Hid ((W9.setCell ⟨hb,4,none⟩ (.slice (some ⟨gp,0,none⟩) j cpp)).drew.heap[rb]?=some (.cells #[.int .i64 rc,.string rt,.slice none 0 0] 41 (0,0))):=(PP.out.2.blk _ _ _ _ kb.out (by decide) (by decide) (by decide) fun h=>h).trans kb.out
   clear PP D6 S9a K9 kr9 kb hwr hJ0 hJ1 hbl
   generalize (W9.setCell ⟨hb,4,none⟩ (.slice (some ⟨gp,0,none⟩) j cpp)).drew=W6 at S6 K6 kr6 kb0 ⊢
   have kb:=ae kb0.out
   clear kb0
   go_upto_region 33 with fail
   obtain ⟨hbl,-,-,b2,-⟩:=S6.out.box.facts
   obtain ⟨rl,r0,r1,r2,-⟩:=aE kb.out
   obtain ⟨hg2B,hg2l,cs2,hc2⟩:=af S6.out.rmd gm rfl
   have HC2:=ae hc2
   have R6:Hid (W6.ownsRow w0.heap.size 236 6 (.slice (some ⟨gm,0,none⟩) N cm1) N (L1.flatMap smV)):=by
    have h:=S6.out.rmd
    rw [hL1] at h
    exact h
   have q1:W6.cell? ⟨gm,n*6+1,none⟩=some (.int .i64 m1.code):=bW (by rw [hL1];exact R6.out) hLk.out 1 (by omega) rfl
   have q2:W6.cell? ⟨gm,n*6+1+1,none⟩=some (.string m1.text):=bW (by rw [hL1];exact R6.out) hLk.out 2 (by omega) rfl
   have q3:W6.cell? ⟨gm,n*6+1+2,none⟩=some (.slice none 0 0):=bW (by rw [hL1];exact R6.out) hLk.out 3 (by omega) rfl
   have qf:∀ j,W6.frozen? ⟨gm,j,none⟩=false:=fun j=>by simp [World.frozen?,hc2]
   have qf1:=qf (n*6+1)
   have qf2:=qf (n*6+1+1)
   have qf3:=qf (n*6+1+2)
   clear qf hc2
   have hIn:(n:Int)<(N:Int):=by omega
   have hg2h:gm≠hb:=by
    intro e
    have h:=HC2.out
    rw [e] at h
    exact absurd (ah h S6.out.box) (by decide)
   have hg2r:gm≠rb:=by
    intro e
    have h:=HC2.out
    rw [e] at h
    exact absurd (ah h kb.out) (by decide)
   refine wp_region_held_drew (S:=fun V=>V.cell? ⟨hb,2,none⟩=some (.slice (some ⟨gm,0,none⟩) N cm1)∧V.cell? ⟨rb,0,none⟩=some (.int .i64 rc)∧V.cell? ⟨rb,1,none⟩=some (.string rt)∧V.cell? ⟨rb,2,none⟩=some (.slice none 0 0)) (by as_aux_lemma=>kernel_rfl) ⟨b2,r0,r1,r2⟩ (fun hS=>?_)
   have HS:=ae hS
   clear hS
   iterate 3
    refine aL 0 (v:=?_) rfl rfl (by as_aux_lemma=>kernel_rfl) (fun _ _ _ h=>h) rfl ?_ HS.out ?_
    rotate_left
    ·(intro wz hSw;obtain ⟨s0,s1,s2,s3⟩:=hSw;go_simp)
     (try with_reducible rfl)
    (try simp only [Act.put,nzL])
   refine aL 4 (v:=?_) rfl rfl (by as_aux_lemma=>kernel_rfl) (fun _ _ _ h=>h) rfl ?_ HS.out ?_
   rotate_left
   ·(intro wz hSw;obtain ⟨s0,s1,s2,s3⟩:=hSw;go_simp)
    (try with_reducible rfl)
   (try simp only [Act.put,nzL])
   refine aL 3 (v:=?_) rfl rfl (by as_aux_lemma=>kernel_rfl) (fun _ _ _ h=>h) rfl ?_ HS.out ?_
   rotate_left
   ·(intro wz hSw;obtain ⟨s0,s1,s2,s3⟩:=hSw;go_simp)
    (try with_reducible rfl)
   (try simp only [Act.put,nzL])
   iterate 3
    refine aL 5 (v:=?_) rfl rfl (by as_aux_lemma=>kernel_rfl) (fun _ _ _ h=>h) rfl ?_ HS.out ?_
    rotate_left
    ·(intro wz hSw;obtain ⟨s0,s1,s2,s3⟩:=hSw;go_simp)
     (try with_reducible rfl)
    (try simp only [Act.put,nzL])
   have TL:=ae (S6.out.told hL1 hLk.out HD1.out rc rt)
   have HS8:Hid ((((W6.setCell ⟨gm,n*6+1,none⟩ (.int .i64 rc)).setCell ⟨gm,n*6+1+1,none⟩ (.string rt)).setCell ⟨gm,n*6+1+2,none⟩ (.slice none 0 0)).drew.cell? ⟨hb,2,none⟩=some (.slice (some ⟨gm,0,none⟩) N cm1)∧(((W6.setCell ⟨gm,n*6+1,none⟩ (.int .i64 rc)).setCell ⟨gm,n*6+1+1,none⟩ (.string rt)).setCell ⟨gm,n*6+1+2,none⟩ (.slice none 0 0)).drew.cell? ⟨rb,0,none⟩=some (.int .i64 rc)∧(((W6.setCell ⟨gm,n*6+1,none⟩ (.int .i64 rc)).setCell ⟨gm,n*6+1+1,none⟩ (.string rt)).setCell ⟨gm,n*6+1+2,none⟩ (.slice none 0 0)).drew.cell? ⟨rb,1,none⟩=some (.string rt)∧(((W6.setCell ⟨gm,n*6+1,none⟩ (.int .i64 rc)).setCell ⟨gm,n*6+1+1,none⟩ (.string rt)).setCell ⟨gm,n*6+1+2,none⟩ (.slice none 0 0)).drew.cell? ⟨rb,2,none⟩=some (.slice none 0 0)) :=
    ⟨(cell_far _ _ _ _ hg2h).trans ((cell_far _ _ _ _ hg2h).trans ((cell_far _ _ _ _ hg2h).trans b2)),(cell_far _ _ _ _ hg2r).trans ((cell_far _ _ _ _ hg2r).trans ((cell_far _ _ _ _ hg2r).trans r0)),(cell_far _ _ _ _ hg2r).trans ((cell_far _ _ _ _ hg2r).trans ((cell_far _ _ _ _ hg2r).trans r1)),(cell_far _ _ _ _ hg2r).trans ((cell_far _ _ _ _ hg2r).trans ((cell_far _ _ _ _ hg2r).trans r2))⟩
   refine bm (i:=8) rfl (by as_aux_lemma=>kernel_rfl) (fun K hK=>?_)
   go_simp
   refine hK.out _ _ HS8.out ?_
   clear hK K HS q1 q2 q3 qf1 qf2 qf3 b2 r0 r1 r2 rl
   (try simp only [Act.put])
   refine wpAnyH_done (by as_aux_lemma=>kernel_rfl) ?_ _
   have D7:Hid (Below (((W6.setCell ⟨gm,n*6+1,none⟩ (.int .i64 rc)).setCell ⟨gm,n*6+1+1,none⟩ (.string rt)).setCell ⟨gm,n*6+1+2,none⟩ (.slice none 0 0)).heap.size (((W6.setCell ⟨gm,n*6+1,none⟩ (.int .i64 rc)).setCell ⟨gm,n*6+1+1,none⟩ (.string rt)).setCell ⟨gm,n*6+1+2,none⟩ (.slice none 0 0)) (((W6.setCell ⟨gm,n*6+1,none⟩ (.int .i64 rc)).setCell ⟨gm,n*6+1+1,none⟩ (.string rt)).setCell ⟨gm,n*6+1+2,none⟩ (.slice none 0 0)).drew):=br.drew
   have S7:=ae (TL.out.1.below D7.out lr)
   have K7:=ae (K6.out.to (TL.out.2.1.to (KS.of_below (X:=XN) D7.out lr TL.out.1.lt)))
   have hk7:=TL.out.2.2.1
   have hl7:=TL.out.2.2.2
   have kr7:Hid ((((W6.setCell ⟨gm,n*6+1,none⟩ (.int .i64 rc)).setCell ⟨gm,n*6+1+1,none⟩ (.string rt)).setCell ⟨gm,n*6+1+2,none⟩ (.slice none 0 0)).drew.heap[w.heap.size]?=some (.cells #[.int .i64 0,.string ⟨#[]⟩,.slice none 0 0] 41 (0,0))):=by
    have h0:=(TL.out.2.1.blk _ _ _ _ kr6.out (by decide) (by decide) (by decide) fun h=>h).trans kr6.out
    exact h0
   have kb7:Hid ((((W6.setCell ⟨gm,n*6+1,none⟩ (.int .i64 rc)).setCell ⟨gm,n*6+1+1,none⟩ (.string rt)).setCell ⟨gm,n*6+1+2,none⟩ (.slice none 0 0)).drew.heap[rb]?=some (.cells #[.int .i64 rc,.string rt,.slice none 0 0] 41 (0,0))):=by
    have h0:=(TL.out.2.1.blk _ _ _ _ kb.out (by decide) (by decide) (by decide) fun h=>h).trans kb.out
    exact h0
   have HK7:=ae hk7
   have HL7:=ae hl7
   clear TL HS8 hk7 hl7 kr6 kb K6 S6 R6 HC2 D7
   generalize (((W6.setCell ⟨gm,n*6+1,none⟩ (.int .i64 rc)).setCell ⟨gm,n*6+1+1,none⟩ (.string rt)).setCell ⟨gm,n*6+1+2,none⟩ (.slice none 0 0)).drew=W7 at S7 K7 kr7 kb7 ⊢
   have OS:=ae OS0.out
   obtain ⟨hbl,-,-,b2,-⟩:=S7.out.box.facts
   obtain ⟨hg2B',hg2l',cs7,hc7⟩:=af S7.out.rmd gm rfl
   have q4:W7.cell? ⟨gm,n*6+4,none⟩=some m1.sv:=bW (by have h:=S7.out.rmd;rw [HL7.out] at h ⊢;exact h) HK7.out 4 (by omega) rfl
   have qf4:W7.frozen? ⟨gm,n*6+4,none⟩=false:=by simp [World.frozen?,hc7]
   have TD:=ae (S7.out.upd' HL7.out HK7.out (j:=4) (by omega) (u:=.slice (some ⟨gx,0,none⟩) ln cx) (m':=⟨m1.name,rc,rt,ls,.slice (some ⟨gx,0,none⟩) ln cx,false⟩) rfl (fun h=>by cases h))
   have kr7b:Hid ((W7.setCell ⟨gm,n*6+4,none⟩ (.slice (some ⟨gx,0,none⟩) ln cx)).heap[w.heap.size]?=some (.cells #[.int .i64 0,.string ⟨#[]⟩,.slice none 0 0] 41 (0,0))):=(TD.out.2.1.blk _ _ _ _ kr7.out (by decide) (by decide) (by decide) fun h=>h).trans kr7.out
   have kb7b:Hid ((W7.setCell ⟨gm,n*6+4,none⟩ (.slice (some ⟨gx,0,none⟩) ln cx)).heap[rb]?=some (.cells #[.int .i64 rc,.string rt,.slice none 0 0] 41 (0,0))):=(TD.out.2.1.blk _ _ _ _ kb7.out (by decide) (by decide) (by decide) fun h=>h).trans kb7.out
   have S7b:=ae TD.out.1
   have K7b:=ae (K7.out.to TD.out.2.1)
   have HK7b:=ae TD.out.2.2.1
   have HL7b:=ae TD.out.2.2.2
   clear hc7
   go_upto_region 35 with fail
   clear b2 q4 qf4 TD S7 K7 kr7 kb7 HK7 HL7
   generalize W7.setCell ⟨gm,n*6+4,none⟩ (.slice (some ⟨gx,0,none⟩) ln cx)=W7b at S7b K7b kr7b kb7b ⊢
   have OSb:=ae (wP OS.out K7b.out)
   obtain ⟨hbl,-,-,b2,-⟩:=S7b.out.box.facts
   obtain ⟨hg2B',hg2l',cs7,hc7⟩:=af S7b.out.rmd gm rfl
   have q5:W7b.cell? ⟨gm,n*6+5,none⟩=some (.bool false):=bW (by have h:=S7b.out.rmd;rw [HL7b.out] at h ⊢;exact h) HK7b.out 5 (by omega) rfl
   have qf5:W7b.frozen? ⟨gm,n*6+5,none⟩=false:=by simp [World.frozen?,hc7]
   have TD:=ae (S7b.out.upd' HL7b.out HK7b.out (j:=5) (by omega) (u:=.bool true) (m':=⟨m1.name,rc,rt,ls,.slice (some ⟨gx,0,none⟩) ln cx,true⟩) rfl (fun _=>(by rw [← HLNE.out];exact OSb.out)))
   have kr8:Hid ((W7b.setCell ⟨gm,n*6+5,none⟩ (.bool true)).heap[w.heap.size]?=some (.cells #[.int .i64 0,.string ⟨#[]⟩,.slice none 0 0] 41 (0,0))):=(TD.out.2.1.blk _ _ _ _ kr7b.out (by decide) (by decide) (by decide) fun h=>h).trans kr7b.out
   have kb8:Hid ((W7b.setCell ⟨gm,n*6+5,none⟩ (.bool true)).heap[rb]?=some (.cells #[.int .i64 rc,.string rt,.slice none 0 0] 41 (0,0))):=(TD.out.2.1.blk _ _ _ _ kb7b.out (by decide) (by decide) (by decide) fun h=>h).trans kb7b.out
   have S8:=ae TD.out.1
   have K8:=ae (K7b.out.to TD.out.2.1)
   clear hc7
   go_upto_region 36 with fail
   clear b2 q5 qf5 TD S7b K7b kr7b kb7b
   generalize W7b.setCell ⟨gm,n*6+5,none⟩ (.bool true)=W8 at S8 K8 kr8 kb8 ⊢
   obtain ⟨ao,co,rfl⟩:=dy S8.out.ror
   obtain ⟨q,hq⟩:∃ q,q=made1.length:=⟨_,rfl⟩
   have HQ:=ae hq
   rw [← hq] at hmd1
   clear hq
   obtain ⟨hbl,-,-,-,b3,-⟩:=S8.out.box.facts
   rw [← HQ.out] at b3
   have A9:=ae ((Below.refl W8.heap.size W8).alloc lr (.cells #[.string nm] 9))
   have S9:=ae (S8.out.below A9.out lr)
   have RO:Hid ((W8.alloc (.cells #[.string nm] 9)).ownsRow w0.heap.size 9 1 (.slice ao q co) q (aU (made1.map (·.name)))):=by
    have h:=S9.out.ror
    rw [← HQ.out] at h
    exact h
   have hbs9:w0.heap.size≤(W8.alloc (.cells #[.string nm] 9)).heap.size:=S9.out.lt
   have HG:Hid (∀ w2:World,(W8.alloc (.cells #[.string nm] 9)).grownBy w2 (Value.slice ao q co).ownBlock→w2.heap[hb]?=(W8.alloc (.cells #[.string nm] 9)).heap[hb]?∧w2.heap[w.heap.size]?=(W8.alloc (.cells #[.string nm] 9)).heap[w.heap.size]?∧w2.heap[rb]?=(W8.alloc (.cells #[.string nm] 9)).heap[rb]?):=fun w2 hg=>by
    have hne:∀ (i:Nat) (cs:Array Value) (t:TypeId) (fz:Nat × Nat),(W8.alloc (.cells #[.string nm] 9)).heap[i]?=some (Obj.cells cs t fz)→t≠9→w2.heap[i]?=(W8.alloc (.cells #[.string nm] 9)).heap[i]?:=fun i cs t fz hi ht=>hg.block i (ai hi) fun e=>by
     obtain ⟨_,_,cs2,hc⟩:=af RO.out i e.symm
     exact ht (ah hi hc)
    exact ⟨hne _ _ _ _ S9.out.box (by decide),hne _ _ _ _ ((A9.out.block _ (ai kr8.out)).trans kr8.out) (by decide),hne _ _ _ _ ((A9.out.block _ (ai kb8.out)).trans kb8.out) (by decide)⟩
   have KRR:Hid ((W8.alloc (.cells #[.string nm] 9)).heap[w.heap.size]?=some (.cells #[.int .i64 0,.string ⟨#[]⟩,.slice none 0 0] 41 (0,0))):=(A9.out.block _ (ai kr8.out)).trans kr8.out
   have KBB:Hid ((W8.alloc (.cells #[.string nm] 9)).heap[rb]?=some (.cells #[.int .i64 rc,.string rt,.slice none 0 0] 41 (0,0))):=(A9.out.block _ (ai kb8.out)).trans kb8.out
   have hbw:¬ hb=w.heap.size:=fun e=>by have h:=S8.out.box;unfold ShBox at h;rw [e] at h;exact absurd (ah h kr8.out) (by decide)
   have hbw':¬ w.heap.size=hb:=fun e=>hbw e.symm
   have hbr:¬ hb=rb:=fun e=>by have h:=S8.out.box;unfold ShBox at h;rw [e] at h;exact absurd (ah h kb8.out) (by decide)
   have hbr':¬ rb=hb:=fun e=>hbr e.symm
   go_wp2_with (first
    | (at_builtin;refine aC _ rfl (.tmp 235) (.tmp 237) 39 rfl w0.heap.size 9 i1 (.string ⟨#[]⟩) 1 16 Tryz.underlying39 hi1 hy0 hy1 hy2 rfl (by decide) (.slice ao q co) q (aU (made1.map (·.name))) (by simp [Act.eval]) RO.out ⟨W8.heap.size,0,none⟩ 1 1 [.string nm] (by simp [Act.eval]) rfl (iw W8 _ _) (by simp [Value.oneCell']) (by unfold maxLen;omega) (by omega) hbs9 ?_;intro v9 w9 hown hgrow hat;have O9:=ae hown;have G9:=ae hgrow;have AT9:=ae hat;have hb9:=ae (HG.out w9 hgrow);obtain ⟨g9,c9,cu9,rfl,hq9⟩:=hown.2.resolve_left (fun h=>by omega);clear hq9 hown hgrow hat;obtain ⟨hbl9,-,-,-,f3,-,-,-,-,-,ff⟩:=(ShBox.blk S9.out.box hb9.out.1).facts;have ff3:=ff 3;obtain ⟨rl,r0,r1,r2,rf⟩:=aE (hb9.out.2.1.trans KRR.out);have rf0:=rf 0;have rf1:=rf 1;have rf2:=rf 2;obtain ⟨pl,p0,p1,p2,pf⟩:=aE (hb9.out.2.2.trans KBB.out);clear ff rf pf)
    | fail)
   have SXX:=ae (S9.out.ord (x:=⟨nm,3,rc,rt,tg,ls⟩) (w':=w9) (v:=.slice (some ⟨g9,0,none⟩) (q+1) c9) (by rw [← HQ.out];exact G9.out) (by rw [← HQ.out];exact O9.out) (by rw [← HQ.out];exact AT9.out))
   refine bodyPost_ret (v:=.agg #[.int .i64 rc,.string rt,.slice none 0 0]) (by simp [results,Tryz.results155,go_sem,r0,r1,r2]) rfl ?_
   have krF:=(Below.heap_setCell w9 ⟨hb,3,none⟩ (.slice (some ⟨g9,0,none⟩) (q+1) c9) w.heap.size hbw').trans (hb9.out.2.1.trans KRR.out)
   rw [HFIN.out]
   refine ⟨L1.set n ⟨m1.name,rc,rt,ls,.slice (some ⟨gx,0,none⟩) ln cx,true⟩,.slice (some ⟨gm,0,none⟩) N cm1,.slice (some ⟨g9,0,none⟩) (q+1) c9,.slice (some ⟨gp,0,none⟩) j cpp,rfl,?_,pW REL8.out hLk.out HM1N.out HM1N.out rfl rfl rfl rfl rfl HNE1.out HI.out,X8.out.set hLk.out rfl (fun k e=>by cases e;exact HGX.out),?_⟩
   ·have x0:=SXX.out.1
    rw [List.set_set,List.set_set] at x0
    replace x0:=x0.setOff krF ⟨by decide,by decide,by decide,by decide⟩ hB0 0 (.int .i64 rc)
    have y0:=an krF (j:=0) (.int .i64 rc)
    have x1:=x0.setOff y0 ⟨by decide,by decide,by decide,by decide⟩ hB0 1 (.string rt)
    exact x1.setOff (an y0 (j:=1) (.string rt)) ⟨by decide,by decide,by decide,by decide⟩ hB0 2 (.slice none 0 0)
   ·have k0:=((KW.out.to K8.out).to (KS.of_below (X:=XN) A9.out lr S8.out.lt)).to SXX.out.2
    exact ((k0.fresh lr hB0 0 _).fresh lr hB0 1 _).fresh lr hB0 2 _
  ·obtain ⟨a,k,sv,rfl,⟨s0,s1,md8,or8,st8,hbox,hrow8⟩,hK8⟩:=hpost
   have A9:=ae ((Below.refl w8.heap.size w8).alloc lr (.cells #[.int .i64 6,.string ⟨#[]⟩,.slice a c.length k] 41))
   have K8:=ae ((K7.out.to hK8).to (KS.of_below (X:=XN) A9.out lr (Nat.le_trans hB0 (K7.out.to hK8).below.size)))
   have HBX:=ae (ShBox.blk hbox (A9.out.block _ (ai hbox)))
   have HR8:=ae (own_below hrow8 A9.out lr)
   have kr8:Hid ((w8.alloc (.cells #[.int .i64 6,.string ⟨#[]⟩,.slice a c.length k] 41)).heap[w.heap.size]?=some (.cells #[.int .i64 0,.string ⟨#[]⟩,.slice none 0 0] 41 (0,0))):=by
    have h0:=(hK8.blk _ _ _ _ kr7.out (by decide) (by decide) (by decide) fun h=>h).trans kr7.out
    exact (A9.out.block _ (ai h0)).trans h0
   clear hK8 hbox hrow8
   unfold fb eE
   dsimp only
   go_upto_region 30 with fail
   clear A9
   generalize w8.alloc (.cells #[.int .i64 6,.string ⟨#[]⟩,.slice a c.length k] 41)=W9 at K8 HBX HR8 kr8 ⊢
   obtain ⟨hbl,-,-,-,-,-,b5,b6,b7,b8,-⟩:=HBX.out.facts
   have hbw:¬ hb=w.heap.size:=fun e=>by have h:=HBX.out;unfold ShBox at h;rw [e] at h;exact absurd (ah h kr8.out) (by decide)
   have hbw':¬ w.heap.size=hb:=fun e=>hbw e.symm
   obtain ⟨rl,r0,r1,r2,rf⟩:=aE kr8.out
   have rf0:=rf 0
   have rf1:=rf 1
   have rf2:=rf 2
   clear rf
   simp only [eE] at b5 b6 b7
   go_wp2_with fail
   refine bodyPost_ret (v:=.agg #[.int .i64 6,.string ⟨#[]⟩,.slice a c.length k]) (by simp [results,Tryz.results155,go_sem,r0,r1,r2]) rfl ?_
   have bxF:=(Below.heap_setCell ((W9.setCell ⟨w.heap.size,0,none⟩ (.int .i64 6)).setCell ⟨w.heap.size,1,none⟩ (.string ⟨#[]⟩)) ⟨w.heap.size,2,none⟩ (.slice a c.length k) hb hbw).trans ((Below.heap_setCell (W9.setCell ⟨w.heap.size,0,none⟩ (.int .i64 6)) ⟨w.heap.size,1,none⟩ (.string ⟨#[]⟩) hb hbw).trans ((Below.heap_setCell W9 ⟨w.heap.size,0,none⟩ (.int .i64 6) hb hbw).trans HBX.out))
   have hnw:((.slice a c.length k:Value)).ownBlock≠some w.heap.size:=fun e=>by
    obtain ⟨_,_,cs2,hc⟩:=af HR8.out w.heap.size e
    exact absurd (ah kr8.out hc) (by decide)
   refine ⟨a,k,rfl,⟨_,_,_,_,_,bxF,?_⟩,?_⟩
   ·exact ar (ar (ar HR8.out hnw _ _) hnw _ _) hnw _ _
   ·exact ((K8.out.fresh lr hB0 0 _).fresh lr hB0 1 _).fresh lr hB0 2 _
  ·obtain ⟨sv,rfl,⟨s0,s1,md8,or8,st8,hbox,hrow8⟩,hK8⟩:=hpost
   have A9:=ae ((Below.refl w8.heap.size w8).alloc lr (.cells #[.int .i64 7,.string d,.slice none 0 0] 41))
   have K8:=ae ((K7.out.to hK8).to (KS.of_below (X:=XN) A9.out lr (Nat.le_trans hB0 (K7.out.to hK8).below.size)))
   have HBX:=ae (ShBox.blk hbox (A9.out.block _ (ai hbox)))
   have HR8:=ae (own_below hrow8 A9.out lr)
   have kr8:Hid ((w8.alloc (.cells #[.int .i64 7,.string d,.slice none 0 0] 41)).heap[w.heap.size]?=some (.cells #[.int .i64 0,.string ⟨#[]⟩,.slice none 0 0] 41 (0,0))):=by
    have h0:=(hK8.blk _ _ _ _ kr7.out (by decide) (by decide) (by decide) fun h=>h).trans kr7.out
    exact (A9.out.block _ (ai h0)).trans h0
   clear hK8 hbox hrow8
   unfold fb eF
   dsimp only
   go_upto_region 30 with fail
   clear A9
   generalize w8.alloc (.cells #[.int .i64 7,.string d,.slice none 0 0] 41)=W9 at K8 HBX HR8 kr8 ⊢
   obtain ⟨hbl,-,-,-,-,-,b5,b6,b7,b8,-⟩:=HBX.out.facts
   have hbw:¬ hb=w.heap.size:=fun e=>by have h:=HBX.out;unfold ShBox at h;rw [e] at h;exact absurd (ah h kr8.out) (by decide)
   have hbw':¬ w.heap.size=hb:=fun e=>hbw e.symm
   obtain ⟨rl,r0,r1,r2,rf⟩:=aE kr8.out
   have rf0:=rf 0
   have rf1:=rf 1
   have rf2:=rf 2
   clear rf
   simp only [eF] at b5 b6 b7
   go_wp2_with fail
   refine bodyPost_ret (v:=.agg #[.int .i64 7,.string d,.slice none 0 0]) (by simp [results,Tryz.results155,go_sem,r0,r1,r2]) rfl ?_
   have bxF:=(Below.heap_setCell ((W9.setCell ⟨w.heap.size,0,none⟩ (.int .i64 7)).setCell ⟨w.heap.size,1,none⟩ (.string d)) ⟨w.heap.size,2,none⟩ (.slice none 0 0) hb hbw).trans ((Below.heap_setCell (W9.setCell ⟨w.heap.size,0,none⟩ (.int .i64 7)) ⟨w.heap.size,1,none⟩ (.string d) hb hbw).trans ((Below.heap_setCell W9 ⟨w.heap.size,0,none⟩ (.int .i64 7) hb hbw).trans HBX.out))
   have hnw:((.slice none 0 0:Value)).ownBlock≠some w.heap.size:=fun e=>by
    obtain ⟨_,_,cs2,hc⟩:=af HR8.out w.heap.size e
    exact absurd (ah kr8.out hc) (by decide)
   refine ⟨rfl,⟨_,_,_,_,_,bxF,?_⟩,?_⟩
   ·exact ar (ar (ar HR8.out hnw _ _) hnw _ _) hnw _ _
   ·exact ((K8.out.fresh lr hB0 0 _).fresh lr hB0 1 _).fresh lr hB0 2 _
end
section
variable {w0:World}{S:Spc}{a0 a1:Option Addr}{c0 c1 hb:Nat}
theorem oC {L:List SM}{making:List ByteArray}{made:List Ent}{nm:ByteArray}(h:ep L making made)(hne:∀ m∈L,m.name≠nm)(h0:aA made nm=none)(h1:atL making nm=none){m':SM}{x:Ent}(hm:m'.name=nm)(hd:m'.done=true)(hx:x.name=nm)(hc:m'.code=(bV x).code)(ht:m'.text=(bV x).text)(hs:m'.seen=x.looks)(hv:m'.sv=.slice none 0 0)(n:Nat) :
  ep ((L++[cF nm]).set L.length m') making (made++[x])∧LExt n L ((L++[cF nm]).set L.length m'):=by
 have hk:(L++[cF nm])[L.length]?=some (cF nm):=by
  rw [List.getElem?_append_right lr,Nat.sub_self]
  rfl
 refine ⟨pW (me h hne (m:=cF nm) rfl rfl) hk rfl hm hx hd hc ht hs (cK h0) h1,(LExt.add n L (m:=cF nm) rfl).set hk hm fun j e=>?_⟩
 rw [hv] at e
 cases e
theorem uV (C:io w0 S a0 a1):∀ n,i8 w0 S hb (.slice a0 S.n0 c0) (.slice a1 S.n1 c1) n:=by
 have key:∀ n,(∀ m,n=m+1→i8 w0 S hb (.slice a0 S.n0 c0) (.slice a1 S.n1 c1) m)→i8 w0 S hb (.slice a0 S.n0 c0) (.slice a1 S.n1 c1) n:=by
  intro n hind making made L md or st w nm hlen h hrel hp hroom hmt hn
  have hmade:made.length≤50000:=by unfold eo at hroom;omega
  have hLn:L.length≤100000:=by have:=hrel.len;omega
  rw [nV]
  unfold de
  cases h0:aA made nm with
  | some e =>
   obtain ⟨k,m,f1,f2,f3,f4,f5⟩:=vX hrel h0
   refine (uS w nm h hLn k m f1 f2 f3).mono ?_
   rintro r w' ⟨rfl,hs,hk⟩
   exact ⟨L,md,or,st,by rw [f4,f5],hs,hrel,LExt.refl _ _,hk⟩
  | none =>
   cases h1:atL making nm with
   | some i =>
    obtain ⟨k,m,f1,f2,f3,f4⟩:=vY hrel h1
    have ht:=hmt nm f4
    cases h2:atI (nm1 S.f1) S.n1 nm with
    | none=>rw [h2] at ht;cases ht
    | some tg=>exact pn C w nm h hLn (by omega) k m f1 f2 f3 tg i h2 h1
   | none =>
    obtain ⟨hf,hne⟩:=tz hrel h0 h1
    dsimp only
    unfold eA
    cases h2:atI (nm0 S.f0) S.n0 nm with
    | some i =>
     refine (uT C w nm h hLn (by omega) hf i h2 (pm C.ok h2)).mono ?_
     rintro r w' ⟨md',or',rfl,hs,hk⟩
     have hr:=oC hrel hne h0 h1 (m':=⟨nm,0,(S.f0 i).text,[],.slice none 0 0,true⟩) (x:=⟨nm,1,0,(S.f0 i).text,0,[]⟩) rfl rfl rfl rfl rfl rfl rfl w.heap.size
     exact ⟨_,md',or',st,rfl,hs,hr.1,hr.2,hk⟩
    | none =>
     cases h3:atI (nm1 S.f1) S.n1 nm with
     | some t =>
      cases n with
      | zero=>exact tB C w nm h hLn (by omega) hf h1 t h3
      | succ m=>exact uU C m (hind m rfl) w nm hlen h hrel hp hroom hmt h0 h1 t h3
     | none =>
      refine (tA C w nm h hLn (by omega) hf h2 h3).mono ?_
      rintro r w' ⟨md',or',rfl,hs,hk⟩
      have hr:=oC hrel hne h0 h1 (m':=⟨nm,4,nm,[],.slice none 0 0,true⟩) (x:=⟨nm,2,0,⟨#[]⟩,0,[]⟩) rfl rfl rfl rfl rfl rfl rfl w.heap.size
      exact ⟨_,md',or',st,rfl,hs,hr.1,hr.2,hk⟩
 intro n
 induction n with
 | zero=>exact key 0 fun m e=>by omega
 | succ n ih=>exact key (n+1) fun m e=>by cases e;exact ih
end
end Go.Proofs.YtkophfgkcijjkaaGreatDoor.Vp
