import Derived.Test.YtkophfgkcijjkaaGreatDoorXE
import Derived.WalkSmall
set_option maxRecDepth 1000000
set_option maxHeartbeats 8000000
namespace Go.Proofs.YtkophfgkcijjkaaGreatDoor.Vp
open RowKit
theorem qk:∀ (L:List SM) (k j:Nat) (m b:SM) (u:Value),L[k]?=some m->j<6->smV b=(smV m).set j u->(L.flatMap smV).set (k*6+j) u=(L.set k b).flatMap smV
 | [],k,j,m,b,u,h,_,_=>by simp at h
 | a :: L,0,j,m,b,u,h,hj,he=>by simp only[List.getElem?_cons_zero,Option.some.injEq] at h;subst h;simp only[List.flatMap_cons,List.set_cons_zero,Nat.zero_mul,Nat.zero_add];rw[List.set_append_left _ _ (by rw[ku];exact hj),he]
 | a :: L,k+1,j,m,b,u,h,hj,he=>by simp only[List.getElem?_cons_succ] at h;simp only[List.flatMap_cons,List.set_cons_succ];rw[List.set_append_right _ _ (by rw[ku];omega),ku,show(k+1)*6+j - 6=k*6+j by omega,qk L k j m b u h hj he]
theorem tK {w:World}{b size n g cap j:Nat}{e:TypeId}{d:List Value}(h:w.ownsRow b e size (.slice (some ⟨g,0,none⟩) n cap) n d)(u:Value):(w.setCell ⟨g,j,none⟩ u).ownsRow b e size (.slice (some ⟨g,0,none⟩) n cap) n (d.set j u):=by
 refine⟨by rw[List.length_set];exact h.1,?_⟩;rcases h.2 with ⟨c,h0⟩ | ⟨g',cap',f,c,hb,k,o,l,i,m⟩
 ·simp at c
 ·simp only[Value.slice.injEq,Option.some.injEq,Addr.mk.injEq] at c
  obtain⟨⟨rfl,-⟩,-,rfl⟩:=c;refine .inr ⟨g,cap,f.setIfInBounds j u,rfl,hb,av k u,o,l,by simpa using i,?_⟩;rw[Array.toList_setIfInBounds,List.take_set,m]
section
variable {w0 w w':World}{hb:Nat}{s0 s1 md or st:Value}{making:List ByteArray}{made:List Ent}{L:List SM}
theorem SI.upd {g cap k j:Nat}{m b:SM}{u:Value}(h:SI w0 hb s0 s1 w making made L (.slice (some ⟨g,0,none⟩) L.length cap) or st)(D:L[k]?=some m)(G:j<6)(B:smV b=(smV m).set j u)(C:b.done=true->w.ownsRow w0.heap.size 239 3 b.sv b.seen.length (df b.seen)):SI w0 hb s0 s1 (w.setCell ⟨g,k*6+j,none⟩ u) making made (L.set k b) (.slice (some ⟨g,0,none⟩) (L.set k b).length cap) or st/\KS w0.heap.size XN w (w.setCell ⟨g,k*6+j,none⟩ u):=by
 obtain⟨f,hgl,cs,l⟩:=ah h.rmd g rfl
 have c:∀ {size n:Nat} {o:TypeId} {r:Value} {A:List Value},w.ownsRow w0.heap.size o size r n A->236≠o->(w.setCell ⟨g,k*6+j,none⟩ u).ownsRow w0.heap.size o size r n A:=fun q s=>ay q (fun e=>by
  obtain⟨_,_,y,d⟩:=ah q g e
  exact s (ai l d)) _ _
 have z:(L.set k b).length=L.length:=List.length_set;refine⟨⟨h.bel.setCell f u,h.hbB,?_,?_,c h.ror (by decide),c h.rst (by decide),h.apart,fun x i p=>?_⟩,KS.setCell w f (.inr fun y t fz d=>.inr (.inl (ai d l))) u⟩
 ·rw[z]
  exact h.box.blk (qh _ _ _ _ fun e=>by
   have E:hb=g:=e
   exact absurd (ai h.box (E ▸ l)) (by decide))
 ·rw[z,<-qk L k j m b u D G B]
  exact tK h.rmd u
 ·rcases List.mem_or_eq_of_mem_set i with i | rfl
  ·exact c (h.seen x i p) (by decide)
  ·exact c (C p) (by decide)
theorem SI.addL {m:SM}{v:Value}(h:SI w0 hb s0 s1 w making made L md or st)(E:w.grownBy w' md.ownBlock)(G:w'.ownsRow w0.heap.size 236 6 v (L.length+1) (L.flatMap smV++smV m))(K:m.done=false):SI w0 hb s0 s1 (w'.setCell ⟨hb,2,none⟩ v) making made (L++[m]) v or st/\KS w0.heap.size XN w (w'.setCell ⟨hb,2,none⟩ v):=by
 have u:=ah h.rmd;have I:KS w0.heap.size XN w w':=KS.of_grown E h.lt fun j O=>by obtain⟨M,_,f,z⟩:=u j O;exact⟨M,.inr fun f t fz p=>.inr (.inl (ai p z))⟩
 have l:∀ (i:Nat) (f:Array Value) (t:TypeId) (fz:Nat × Nat),w.heap[i]?=some (Obj.cells f t fz)->t≠236->w'.heap[i]?=w.heap[i]?:=fun i f t fz hi N=>E.block i (af hi) fun e=>by obtain⟨_,_,y,z⟩:=u i e.symm;exact N (ai hi z)
 have b:ShBox w' hb s0 s1 md or st 0 ⟨#[]⟩ (.slice none 0 0) false:=h.box.blk (l _ _ _ _ h.box (by decide));have c:∀ {size n:Nat} {r:TypeId} {H:Value} {J:List Value},w.ownsRow w0.heap.size r size H n J->r≠236->125≠r->(w'.setCell ⟨hb,2,none⟩ v).ownsRow w0.heap.size r size H n J:=fun s C D=>by
  have B:=bB (w':=w') s fun k d=>by obtain⟨_,_,f,p⟩:=ah s k d;exact l _ _ _ _ p C
  exact ay B (fun e=>by
   obtain⟨_,_,y,o⟩:=ah B hb e
   exact D (ai b o)) _ _
 have A:(w'.setCell ⟨hb,2,none⟩ v).ownsRow w0.heap.size 236 6 v (L.length+1) (L.flatMap smV++smV m):=ay G (fun e=>by
  obtain⟨_,_,y,o⟩:=ah G hb e
  exact absurd (ai b o) (by decide)) _ _
 have d:KS w0.heap.size XN w' (w'.setCell ⟨hb,2,none⟩ v):=KS.setCell w' h.hbB (.inr fun f t fz p=>.inr (.inr (ai p b))) v;refine⟨⟨h.bel.trans (I.to d).below,h.hbB,av b v,(by rw[List.length_append,List.length_singleton,List.flatMap_append,List.flatMap_singleton];exact A),c h.ror (by decide) (by decide),c h.rst (by decide) (by decide),h.apart,fun x g q=>?_⟩,I.to d⟩;rcases List.mem_append.1 g with g | g
 ·exact c (h.seen x g q) (by decide) (by decide)
 ·rw[List.mem_singleton.1 g,K] at q
  cases q
theorem SI.ord {x:Ent}{v:Value}(h:SI w0 hb s0 s1 w making made L md or st)(z:w.grownBy w' or.ownBlock)(E:w'.ownsRow w0.heap.size 9 1 v (made.length+1) (bR (made.map (·.name))++[.string x.name]))(C:v.ownBlock=or.ownBlock∨v.ownBlock=some w.heap.size):SI w0 hb s0 s1 (w'.setCell ⟨hb,3,none⟩ v) making (made++[x]) L md v st/\KS w0.heap.size XN w (w'.setCell ⟨hb,3,none⟩ v):=by
 have u:=ah h.ror;have H:KS w0.heap.size XN w w':=KS.of_grown z h.lt fun j N=>by obtain⟨K,_,f,A⟩:=u j N;exact⟨K,.inr fun f t fz g=>.inl (ai g A)⟩
 have q:∀ (i:Nat) (f:Array Value) (t:TypeId) (fz:Nat × Nat),w.heap[i]?=some (Obj.cells f t fz)->t≠9->w'.heap[i]?=w.heap[i]?:=fun i f t fz hi O=>z.block i (af hi) fun e=>by obtain⟨_,_,o,A⟩:=u i e.symm;exact O (ai hi A)
 have c:ShBox w' hb s0 s1 md or st 0 ⟨#[]⟩ (.slice none 0 0) false:=h.box.blk (q _ _ _ _ h.box (by decide));have m:∀ {size n:Nat} {r:TypeId} {G:Value} {J:List Value},w.ownsRow w0.heap.size r size G n J->r≠9->125≠r->(w'.setCell ⟨hb,3,none⟩ v).ownsRow w0.heap.size r size G n J:=fun s B D=>by
  have l:=bB (w':=w') s fun k b=>by obtain⟨_,_,f,g⟩:=ah s k b;exact q _ _ _ _ g B
  exact ay l (fun e=>by
   obtain⟨_,_,o,d⟩:=ah l hb e
   exact D (ai c d)) _ _
 have y:(w'.setCell ⟨hb,3,none⟩ v).ownsRow w0.heap.size 9 1 v (made.length+1) (bR (made.map (·.name))++[.string x.name]):=ay E (fun e=>by
  obtain⟨_,_,o,d⟩:=ah E hb e
  exact absurd (ai c d) (by decide)) _ _
 have b:KS w0.heap.size XN w' (w'.setCell ⟨hb,3,none⟩ v):=KS.setCell w' h.hbB (.inr fun f t fz g=>.inr (.inr (ai g c))) v;refine⟨⟨h.bel.trans (H.to b).below,h.hbB,av c v,m h.rmd (by decide) (by decide),(by rw[List.length_append,List.length_singleton];simpa[bR] using y),?_,fun k p=>?_,fun x M I=>m (h.seen x M I) (by decide) (by decide)⟩,H.to b⟩
 ·have l:w'.ownsRow w0.heap.size 9 1 st making.length (bR making):=bB h.rst fun k b=>by
   obtain⟨_,P,f,g⟩:=ah h.rst k b;exact z.block k P fun e=>h.apart k e.symm b
  exact ay l (fun e=>by
   obtain⟨_,_,o,d⟩:=ah l hb e
   exact absurd (ai c d) (by decide)) _ _
 ·intro e
  rcases C with a | a
  ·exact h.apart k (by rw[<-a];exact p) e
  ·rw[a] at p
   cases p
   have:=(ah h.rst _ e).2.1;omega
theorem SI.push {nm:ByteArray}{v:Value}(h:SI w0 hb s0 s1 w making made L md or st)(z:w.grownBy w' st.ownBlock)(E:w'.ownsRow w0.heap.size 9 1 v (making.length+1) (bR making++[.string nm]))(C:v.ownBlock=st.ownBlock∨v.ownBlock=some w.heap.size):SI w0 hb s0 s1 (w'.setCell ⟨hb,4,none⟩ v) (making++[nm]) made L md or v/\KS w0.heap.size XN w (w'.setCell ⟨hb,4,none⟩ v):=by
 have s:=ah h.rst;have H:KS w0.heap.size XN w w':=KS.of_grown z h.lt fun j N=>by obtain⟨K,_,f,A⟩:=s j N;exact⟨K,.inr fun f t fz g=>.inl (ai g A)⟩
 have p:∀ (i:Nat) (f:Array Value) (t:TypeId) (fz:Nat × Nat),w.heap[i]?=some (Obj.cells f t fz)->t≠9->w'.heap[i]?=w.heap[i]?:=fun i f t fz hi O=>z.block i (af hi) fun e=>by obtain⟨_,_,o,A⟩:=s i e.symm;exact O (ai hi A)
 have c:ShBox w' hb s0 s1 md or st 0 ⟨#[]⟩ (.slice none 0 0) false:=h.box.blk (p _ _ _ _ h.box (by decide));have m:∀ {size n:Nat} {q:TypeId} {G:Value} {J:List Value},w.ownsRow w0.heap.size q size G n J->q≠9->125≠q->(w'.setCell ⟨hb,4,none⟩ v).ownsRow w0.heap.size q size G n J:=fun r B D=>by
  have l:=bB (w':=w') r fun k b=>by obtain⟨_,_,f,g⟩:=ah r k b;exact p _ _ _ _ g B
  exact ay l (fun e=>by
   obtain⟨_,_,o,d⟩:=ah l hb e
   exact D (ai c d)) _ _
 have y:(w'.setCell ⟨hb,4,none⟩ v).ownsRow w0.heap.size 9 1 v (making.length+1) (bR making++[.string nm]):=ay E (fun e=>by
  obtain⟨_,_,o,d⟩:=ah E hb e
  exact absurd (ai c d) (by decide)) _ _
 have b:KS w0.heap.size XN w' (w'.setCell ⟨hb,4,none⟩ v):=KS.setCell w' h.hbB (.inr fun f t fz g=>.inr (.inr (ai g c))) v;refine⟨⟨h.bel.trans (H.to b).below,h.hbB,av c v,m h.rmd (by decide) (by decide),?_,(by rw[List.length_append,List.length_singleton];simpa[bR] using y),fun k u=>?_,fun x M I=>m (h.seen x M I) (by decide) (by decide)⟩,H.to b⟩
 ·have l:w'.ownsRow w0.heap.size 9 1 or made.length (bR (made.map (·.name))):=bB h.ror fun k b=>by
   obtain⟨_,P,f,g⟩:=ah h.ror k b;exact z.block k P fun e=>h.apart k b e.symm
  exact ay l (fun e=>by
   obtain⟨_,_,o,d⟩:=ah l hb e
   exact absurd (ai c d) (by decide)) _ _
 ·intro e
  rcases C with a | a
  ·exact h.apart k u (by rw[<-a];exact e)
  ·rw[a] at e
   cases e
   have:=(ah h.ror _ u).2.1;omega
theorem SI.pop {nm:ByteArray}{g cap:Nat}(h:SI w0 hb s0 s1 w (making++[nm]) made L md or (.slice (some ⟨g,0,none⟩) (making.length+1) cap)):SI w0 hb s0 s1 (w.setCell ⟨hb,4,none⟩ (.slice (some ⟨g,0,none⟩) making.length cap)) making made L md or (.slice (some ⟨g,0,none⟩) making.length cap)/\KS w0.heap.size XN w (w.setCell ⟨hb,4,none⟩ (.slice (some ⟨g,0,none⟩) making.length cap)):=by
 have b:∀ {size n:Nat} {d:TypeId} {j:Value} {k:List Value},w.ownsRow w0.heap.size d size j n k->125≠d->(w.setCell ⟨hb,4,none⟩ (.slice (some ⟨g,0,none⟩) making.length cap)).ownsRow w0.heap.size d size j n k:=fun c f=>ay c (fun e=>by
  obtain⟨_,_,cs2,i⟩:=ah c hb e
  exact f (ai h.box i)) _ _
 have hst:=h.rst;rw[List.length_append,List.length_singleton] at hst;refine⟨⟨h.bel.setCell h.hbB _,h.hbB,av h.box _,b h.rmd (by decide),b h.ror (by decide),b (ownsRow_pop (last:=[.string nm]) (by simp[bR]) (by simpa[bR] using hst)) (by decide),h.apart,fun x l m=>b (h.seen x l m) (by decide)⟩,KS.setCell w h.hbB (.inr fun cs t fz o=>.inr (.inr (ai o h.box))) _⟩
end
theorem sj {L:List SM}(h:L.Pairwise fun m b=>m.name≠b.name){i j:Nat}{m b:SM}(hi:L[i]?=some m)(o:L[j]?=some b)(e:m.name=b.name):i=j:=by
 rw[List.pairwise_iff_getElem] at h;obtain⟨g,f⟩:=List.getElem?_eq_some_iff.1 hi;obtain⟨c,d⟩:=List.getElem?_eq_some_iff.1 o;rcases Nat.lt_trichotomy i j with n | k | l
 ·exact absurd (by rw[f,d];exact e) (h i j g c n)
 ·exact k
 ·exact absurd (by rw[f,d];exact e.symm) (h j i c g l)
theorem nh {L:List SM}(hn:L.Pairwise fun m d=>m.name≠d.name){m:SM}(g:m∈L){nm:ByteArray}(e:m.name=nm):∃ k,fI L nm=some k/\L[k]?=some m:=by
 obtain⟨k,b⟩:=List.getElem?_of_mem g;refine⟨k,qd b (by rw[e];simp) fun j f hj c=>?_,b⟩;cases h:(f.name.toList == nm.toList) with
 | false=>rfl
 | true =>have:=sj hn c b (by rw[bytes_beq h,e]);omega
section
variable {L:List SM}{making:List ByteArray}{made:List Ent}{nm:ByteArray}
theorem yv (h:eB L making made){e:Ent}(f:bs made nm=some e):∃ k m,fI L nm=some k/\L[k]?=some m/\m.done=true/\m.code=(cY e).code/\m.text=(cY e).text:=by obtain⟨i,o⟩:=mi f;obtain⟨m,n,c,b,g,j,_⟩:=h.got e i;obtain⟨k,l,d⟩:=nh h.nod n (c.trans o);exact⟨k,m,l,d,b,g,j⟩
theorem yw (h:eB L making made){i:Nat}(hi:atL making nm=some i):∃ k m,fI L nm=some k/\L[k]?=some m/\m.done=false/\nm∈making:=by
 have c:=hi;unfold atL at c;obtain⟨d,n,_⟩:=List.findIdx?_eq_some_iff_getElem.1 c;have b:nm∈making:=by rw[<-bytes_beq n];exact gz d
 obtain⟨m,o,g,f⟩:=h.mkg nm b;obtain⟨k,l,j⟩:=nh h.nod o g;exact⟨k,m,l,j,f,b⟩
theorem uX (h:eB L making made)(i:bs made nm=none)(k:atL making nm=none):fI L nm=none/\∀ m∈L,m.name≠nm:=by
 have b:∀ m∈L,m.name≠nm:=fun m c e=>by
  rcases h.all m c with ⟨x,g,f⟩ | d
  ·exact fE i x g (f.trans e)
  ·exact gV k _ d e
 refine⟨sd fun j m hj c=>?_,b⟩;cases d:(m.name.toList == nm.toList) with
 | false=>rfl
 | true=>exact absurd (bytes_beq d) (b m (List.mem_of_getElem? c))
theorem nZ (h:eB L making made)(g:∀ m∈L,m.name≠nm){m:SM}(f:m.name=nm)(k:m.done=false):eB (L++[m]) (making++[nm]) made:=by
 refine⟨?_,by simp[h.len];omega,fun x i=>?_,fun t d=>?_,fun y c=>?_⟩
 ·rw[List.pairwise_append]
  exact⟨h.nod,List.pairwise_singleton _ _,fun a j b hb=>by rw[List.mem_singleton.1 hb,f];exact g a j⟩
 ·obtain⟨y,c,r⟩:=h.got x i
  exact⟨y,List.mem_append_left _ c,r⟩
 ·rcases List.mem_append.1 d with d | d
  ·obtain⟨y,c,r⟩:=h.mkg t d
   exact⟨y,List.mem_append_left _ c,r⟩
  ·exact⟨m,List.mem_append_right _ (List.mem_singleton.2 rfl),by rw[f,List.mem_singleton.1 d],k⟩
 ·rcases List.mem_append.1 c with c | c
  ·exact(h.all y c).imp id fun h=>List.mem_append_left _ h
  ·rw[List.mem_singleton.1 c,f]
   exact .inr (List.mem_append_right _ (List.mem_singleton.2 rfl))
theorem su {d:List Ent}{k:Nat}{m b:SM}{x:Ent}(h:eB L (making++[nm]) d)(A:L[k]?=some m)(B:m.name=nm)(f:b.name=nm)(s:x.name=nm)(K:b.done=true)(O:b.code=(cY x).code)(P:b.text=(cY x).text)(J:b.seen=x.looks)(M:∀ y∈d,y.name≠nm)(N:atL making nm=none):eB (L.set k b) making (d++[x]):=by
 have G:=(List.getElem?_eq_some_iff.1 A).1;have D:=(List.getElem?_eq_some_iff.1 A).2;have n:∀ y∈L,y.name≠nm->y∈L.set k b:=fun y c C=>by
  obtain⟨i,hi⟩:=List.getElem?_of_mem c;refine List.mem_of_getElem? (i:=i) ?_;rw[List.getElem?_set_ne fun e=>?_]
  ·exact hi
  ·subst e
   rw[A] at hi;cases hi
   exact C B
 have u:b∈L.set k b:=List.mem_of_getElem? (List.getElem?_set_self G);refine⟨?_,by rw[List.length_set,h.len];simp;omega,fun y c=>?_,fun t p=>?_,fun y c=>?_⟩
 ·have o:=h.nod
  rw[List.pairwise_iff_getElem] at o ⊢;have q:∀ (i:Nat) (hi:i<(L.set k b).length),(L.set k b)[i].name=(L[i]'(by simpa using hi)).name:=fun i hi=>by
   rw[List.getElem_set];split
   ·rename_i e;subst e;rw[D,B,f]
   ·rfl
  intro i j hi I H;rw[q i hi,q j I];exact o i j (by simpa using hi) (by simpa using I) H
 ·rcases List.mem_append.1 c with c | c
  ·obtain⟨z,hz,g,r⟩:=h.got y c
   exact⟨z,n z hz (by rw[g];exact M y c),g,r⟩
  ·rw[List.mem_singleton.1 c]
   exact⟨b,u,by rw[f,s],K,O,P,J⟩
 ·obtain⟨z,hz,g,r⟩:=h.mkg t (List.mem_append_left _ p)
  exact⟨z,n z hz (by rw[g];exact gV N t p),g,r⟩
 ·rcases List.mem_or_eq_of_mem_set c with E | rfl
  ·rcases h.all y E with ⟨z,hz,e⟩ | l
   ·exact .inl ⟨z,List.mem_append_left _ hz,e⟩
   ·rcases List.mem_append.1 l with l | l
    ·exact .inr l
    ·exact .inl ⟨x,List.mem_append_right _ (List.mem_singleton.2 rfl),by rw[s,List.mem_singleton.1 l]⟩
  ·exact .inl ⟨x,List.mem_append_right _ (List.mem_singleton.2 rfl),by rw[s,f]⟩
end
theorem kQ {S:Spc}(h:SpcOk S){nm:ByteArray}{i:Nat}(hi:atI (nm0 S.f0) S.n0 nm=some i):atI (nm1 S.f1) S.n1 nm=none:=by
 have b:=h.chk;unfold bi at b;split at b;· omega
 split at b;· omega
 split at b;· omega
 split at b;· omega
 split at b;· omega
 split at b;· omega
 rename_i d;obtain⟨f,c⟩:=b9 hi;have:=lA (Bool.eq_false_iff.2 d) f;rw[c] at this;exact qb this
end Go.Proofs.YtkophfgkcijjkaaGreatDoor.Vp
namespace Go.Proofs.YtkophfgkcijjkaaGreatDoor.Vp
open RowKit Ca
section
variable {w0:World}{S:Spc}{a0 a1:Option Addr}{c0 c1 hb:Nat}{md or st:Value}{making:List ByteArray}{made:List Ent}{L:List SM}
theorem xh (w:World)(nm:ByteArray)(h:SI w0 hb (.slice a0 S.n0 c0) (.slice a1 S.n1 c1) w making made L md or st)(t:L.length<=100000)(k:Nat)(m:SM)(s:fI L nm=some k)(q:L[k]?=some m)(C:m.done=true):Calls Tryz.prog 155 #[.pointer (some ⟨hb,0,none⟩),.string nm] w fun e w'=>e=.returned (.agg #[.int .i64 m.code,.string m.text,.slice none 0 0])/\SI w0 hb (.slice a0 S.n0 c0) (.slice a1 S.n1 c1) w' making made L md or st/\KS w0.heap.size XN w w':=by
 have p:=ae ((q9 w).alloc ly (.cells #[.int .i64 0,.string ⟨#[]⟩,.slice none 0 0] 41));have kr:Hid ((w.alloc (.cells #[.int .i64 0,.string ⟨#[]⟩,.slice none 0 0] 41)).heap[w.heap.size]?=some (.cells #[.int .i64 0,.string ⟨#[]⟩,.slice none 0 0] 41 (0,0))):=heap_alloc_new _ _;have c:=ae (h.below p.out ly);have b:w0.heap.size<=w.heap.size:=h.lt;have hkl:=(List.getElem?_eq_some_iff.1 q).1;obtain⟨g,cap,cur,rfl,-⟩:=h.rmd.2.resolve_left (fun h=>by omega);have y:cZ (fI L nm)=(k:Int):=by rw[s];rfl
 have l:=ae q;obtain⟨n,hn⟩:∃ n,n=L.length:=⟨_,rfl⟩
 have B:=ae hn;have hkn:k<n:=by omega
 clear h s q hn;go_enter Tryz.func155,Tryz.ntmps155;go_wp2_with fail;generalize w.alloc (.cells #[.int .i64 0,.string ⟨#[]⟩,.slice none 0 0] 41)=d at p kr c ⊢;refine(fP d nm c.out t).mono ?_;rintro e w1 ⟨rfl,o⟩;rw[o];clear o;rw[y];obtain⟨hbl,-,-,z,-⟩:=c.out.box.facts;have d1:d.cell? ⟨g,k*6+1,none⟩=some (.int .i64 m.code):=bC c.out.rmd l.out 1 (by omega) rfl;have d2:d.cell? ⟨g,k*6+2,none⟩=some (.string m.text):=bC c.out.rmd l.out 2 (by omega) rfl;have d3:d.cell? ⟨g,k*6+3,none⟩=some (.slice none 0 0):=bC c.out.rmd l.out 3 (by omega) rfl;have d5:d.cell? ⟨g,k*6+5,none⟩=some (.bool true):=by have:=bC c.out.rmd l.out 5 (by omega) (u:=.bool m.done) rfl;rw[C] at this;exact this
 rw[<-B.out] at z;obtain⟨rl,r0,r1,A,f⟩:=aI kr.out;have rf0:=f 0;have rf1:=f 1;have rf2:=f 2;have hI0:(0:Int)<=(k:Int):=by omega
 have hI1:(k:Int)<(n:Int):=by omega
 clear f;go_wp2_with fail;refine bp (v:=.agg #[.int .i64 m.code,.string m.text,.slice none 0 0]) (by simp[results,Tryz.results155,go_sem,r0,r1,A]) rfl ⟨rfl,?_,?_⟩
 ·have D:=c.out.setOff kr.out ⟨by decide,by decide,by decide,by decide⟩ b 0 (.int .i64 m.code)
  have r:=av kr.out (j:=0) (.int .i64 m.code);have x:=D.setOff r ⟨by decide,by decide,by decide,by decide⟩ b 1 (.string m.text);exact x.setOff (av r (j:=1) (.string m.text)) ⟨by decide,by decide,by decide,by decide⟩ b 2 (.slice none 0 0)
 ·refine((((KS.of_below (X:=XN) p.out ly b).trans (KS.setCell (X:=fun i=>i=w.heap.size) _ b (Or.inl rfl) _) ?_).trans (KS.setCell (X:=fun i=>i=w.heap.size) _ b (Or.inl rfl) _) ?_).trans (KS.setCell (X:=fun i=>i=w.heap.size) _ b (Or.inl rfl) _) ?_)
  all_goals
   intro i hi h;have e2:i=w.heap.size:=h;omega
theorem lG {w:World}{b g cap n:Nat}{M:List ByteArray}(h:w.ownsRow b 9 1 (.slice (some ⟨g,0,none⟩) n cap) n (bR M)){i:Nat}{t:ByteArray}(d:M[i]?=some t):w.cell? ⟨g,i,none⟩=some (.string t):=by have c:=h.cells (g:=g) rfl i (.string t) (by rw[bR,List.getElem?_map,d];rfl);rw[addr_add,Nat.zero_add] at c;exact c
theorem ry (C:ju w0 S a0 a1)(w:World)(nm:ByteArray)(h:SI w0 hb (.slice a0 S.n0 c0) (.slice a1 S.n1 c1) w making made L md or st)(zZ:L.length<=100000)(zM:making.length<=60)(k:Nat)(m:SM)(B:fI L nm=some k)(h2:L[k]?=some m)(hd:m.done=false)(tg r:Nat)(ht:atI (nm1 S.f1) S.n1 nm=some tg)(hi:atL making nm=some r):Calls Tryz.prog 155 #[.pointer (some ⟨hb,0,none⟩),.string nm] w fun e w'=>gX w0 hb (.slice a0 S.n0 c0) (.slice a1 S.n1 c1) making L w e w' (.inr (.inl (making.drop r))):=by
 obtain⟨i1,zO,Ab,zV,Ag⟩:=ey fQ;have A0:=ae ((q9 w).alloc ly (.cells #[.int .i64 0,.string ⟨#[]⟩,.slice none 0 0] 41));have kr:Hid ((w.alloc (.cells #[.int .i64 0,.string ⟨#[]⟩,.slice none 0 0] 41)).heap[w.heap.size]?=some (.cells #[.int .i64 0,.string ⟨#[]⟩,.slice none 0 0] 41 (0,0))):=heap_alloc_new _ _;have T:=ae (h.below A0.out ly);have f:w0.heap.size<=w.heap.size:=h.lt;have hkl:=(List.getElem?_eq_some_iff.1 h2).1;obtain⟨g,cap,cur,rfl,-⟩:=h.rmd.2.resolve_left (fun h=>by omega);have e1:cZ (fI L nm)=(k:Int):=by rw[B];rfl
 have I:cZ (atI (nm1 S.f1) S.n1 nm)=(tg:Int):=by rw[ht];rfl
 have Ai:r<making.length/\(∃ x,making[r]?=some x/\(x.toList == nm.toList)=true)/\∀ (j:Nat) (y:ByteArray),j<r->making[j]?=some y->(y.toList == nm.toList)=false:=by unfold atL at hi;obtain⟨q1,q2,q3⟩:=List.findIdx?_eq_some_iff_getElem.1 hi;refine⟨q1,⟨_,gq q1,q2⟩,fun j y hj hy=>?_⟩;have:=q3 j hj;rw[Bool.not_eq_true] at this;rw[(List.getElem?_eq_some_iff.1 hy).2] at this;exact this
 obtain⟨zH,⟨xi,n9,mv⟩,aq⟩:=Ai;obtain⟨U,d,cus,rfl,qr⟩:=h.rst.2.resolve_left (fun h=>by omega);have zX:making.length<=d:=qr.2.2.1;have H2:=ae h2;have Ae:=ae n9;have zW:=ae aq;have zU:=ae mv;obtain⟨n,hn⟩:∃ n,n=L.length:=⟨_,rfl⟩
 have HN:=ae hn;have hkn:k<n:=by omega
 obtain⟨c,V⟩:∃ c,c=making.length:=⟨_,rfl⟩
 have A:=ae V;have CC:=ae C;have hsm:=C.ok.small;rw[<-V] at zH zM zX;clear h B h2 hn C ht hi qr V n9 mv aq;go_enter Tryz.func155,Tryz.ntmps155;go_wp2_with fail;generalize w.alloc (.cells #[.int .i64 0,.string ⟨#[]⟩,.slice none 0 0] 41)=W0 at A0 kr T ⊢;refine(fP W0 nm T.out zZ).mono ?_;rintro e w1 ⟨rfl,zE⟩;rw[zE];clear zE;rw[e1];obtain⟨P,b0,b1,b2,-⟩:=T.out.box.facts;have d5:W0.cell? ⟨g,k*6+5,none⟩=some (.bool false):=by have:=bC T.out.rmd H2.out 5 (by omega) (u:=.bool m.done) rfl;rw[hd] at this;exact this
 rw[<-HN.out] at b2;have hI0:(0:Int)<=(k:Int):=by omega
 have hI1:(k:Int)<(n:Int):=by omega
 go_wp2_with fail;refine(dG a0 S.n0 c0 a1 S.n1 c1 S.f0 nm W0 (by omega) (CC.out.src.below T.out.bel ly)).mono ?_;rintro e w1 ⟨rfl,s⟩;have S1:=ae (T.out.below s ly);have th:Hid (w1.heap[w.heap.size]?=_):=(s.block _ (af kr.out)).trans kr.out;have K1:=ae (A0.out.trans (s.mono A0.out.size));clear s b0 b1 b2 P d5;obtain⟨P,b0,b1,-⟩:=S1.out.box.facts;go_wp2_with fail;refine(dP a0 S.n0 c0 a1 S.n1 c1 S.f1 nm w1 (by omega) (CC.out.tgt.below S1.out.bel ly)).mono ?_;rintro e M ⟨he,s⟩;rw[I] at he;subst he;have p:=ae (S1.out.below s ly);have ld:Hid (M.heap[w.heap.size]?=_):=(s.block _ (af th.out)).trans th.out;have K2:=ae (K1.out.trans (s.mono K1.out.size));clear s b0 b1 P;obtain⟨P,-,-,-,-,b4,b5,b6,b7,b8,bf⟩:=p.out.box.facts;have zS:=bf 5;have zY:=bf 6;have Af:=bf 7;have zN:=bf 8;rw[<-A.out] at b4;clear bf;have hT0:(0:Int)<=(tg:Int):=by omega
 go_wp2_with fail;go_loop [9] (fun i=>∃ j:Nat,j<=r/\i=.int .i64 j) (fun i=>r - (intOf i).toNat);case atStart=>exact⟨0,by omega,rfl⟩
 case round =>
  obtain⟨j,hj,rfl⟩:=hrel;obtain⟨y,hy⟩:∃ y,making[j]?=some y:=⟨_,gq (by have:=A.out;omega)⟩
  have dj:M.cell? ⟨U,j,none⟩=some (.string y):=lG p.out.rst hy;have hjm:(j:Int)<(c:Int):=by omega
  have HY:=ae hy;clear hy;by_cases zP:j<r
  ·have Aa:=zW.out j y zP HY.out
   have HNE:=ae Aa;go_wp2;exact⟨⟨j+1,by omega,by go_num⟩,by simp[intOf];omega⟩
  ·obtain rfl:j=r:=by omega
   have hye:(y.toList == nm.toList)=true:=by
    have:=HY.out;rw[Ae.out] at this;cases this
    exact zU.out
   go_upto_region 22 with fail;clear dj b4 b5 b6 b7 b8 zS zY Af zN;have sm:=ae (av p.out.box (j:=8) (.bool true))
   have R3:Hid ((M.setCell ⟨hb,8,none⟩ (.bool true)).ownsRow w0.heap.size 9 1 (.slice (some ⟨U,0,none⟩) making.length d) making.length (bR making)):=ay p.out.rst (fun e=>by
    obtain⟨_,_,ur,D⟩:=ah p.out.rst hb e
    exact absurd (ai p.out.box D) (by decide)) _ _
   have hbw:hb≠w.heap.size:=fun e=>absurd (ai p.out.box (e ▸ ld.out)) (by decide);have Q:Hid ((M.setCell ⟨hb,8,none⟩ (.bool true)).heap[w.heap.size]?=_):=(qh _ _ _ _ (Ne.symm hbw)).trans ld.out;have R:Hid (KS w0.heap.size XN w (M.setCell ⟨hb,8,none⟩ (.bool true))):=(KS.of_below (X:=XN) K2.out ly f).to (KS.setCell M p.out.hbB (.inr fun d t fz H=>.inr (.inr (ai H p.out.box))) _);have fd:w0.heap.size<=hb:=p.out.hbB;generalize M.setCell ⟨hb,8,none⟩ (.bool true)=b at sm R3 Q R ⊢;have K:Hid (ShBox b hb (.slice a0 S.n0 c0) (.slice a1 S.n1 c1) (.slice (some ⟨g,0,none⟩) L.length cap) or (.slice (some ⟨U,0,none⟩) making.length d) 0 ⟨#[]⟩ (.slice none 0 0) true):=sm.out;obtain⟨zJ,-,-,-,-,b4,-⟩:=K.out.facts;rw[<-A.out] at b4;have LO:=ae (iO b 9 1);have A4:=ae ((q9 b).alloc ly (.cells #[] 9));have zR:Hid (∀ q u,(bR (making.drop j))[q]?=some u->(b.alloc (.cells #[] 9)).cell? ((⟨U,j,none⟩:Addr).add q)=some u):=fun q u hq=>by have B:=(own_below R3.out A4.out ly).cells (g:=U) rfl (j+q) u (by rw[<-hq,bR,bR,List.getElem?_map,List.getElem?_map,List.getElem?_drop]);rw[addr_add,Nat.zero_add] at B;rw[addr_add];exact B
   have hjc:¬ d=j:=by omega
   have hI2:(0:Int)<=(j:Int):=by omega
   have hI3:(j:Int)<=(c:Int):=by omega
   have hI4:(c:Int)<=(d:Int):=by omega
   have ro:(bR (making.drop j)).length=(c - j)*1:=by rw[bR,List.length_map,List.length_drop,<-A.out,Nat.mul_one]
   have Ad:=ae ro;have bt:∀ u∈bR (making.drop j),u.oneCell'=true:=fun u hu=>by rw[bR,List.mem_map] at hu;obtain⟨t,_,rfl⟩:=hu;rfl
   have zG:=ae bt;clear ro bt;have HG:Hid (∀ o:World,(b.alloc (.cells #[] 9)).grownBy o (some b.heap.size)->o.heap[hb]?=b.heap[hb]?/\o.heap[w.heap.size]?=b.heap[w.heap.size]?):=fun o hg=>by
    have hz:(b.alloc (.cells #[] 9)).heap.size=b.heap.size+1:=by simp
    have zQ:=af Q.out;exact⟨(hg.block hb (by omega) (fun e=>by have I:hb=b.heap.size:=Option.some.inj e;omega)).trans (A4.out.block hb zJ),(hg.block w.heap.size (by omega) (fun e=>by have I:w.heap.size=b.heap.size:=Option.some.inj e;omega)).trans (A4.out.block _ zQ)⟩
   have Y:b.heap.size<=(b.alloc (.cells #[] 9)).heap.size:=by simp
   have zI:(0+(c - j))*16<=140737488355328:=by omega
   have zK:0+(c - j)<=maxLen:=by unfold maxLen;omega
   have zL:0+(c - j)≠0:=by omega
   go_wp2_with (first
    | (at_builtin;refine aN _ rfl (.tmp 129) (.tmp 135) 39 rfl b.heap.size 9 i1 (.string ⟨#[]⟩) 1 16 Tryz.underlying39 zO Ab zV Ag rfl (by decide) (.slice (some ⟨b.heap.size,0,none⟩) 0 0) 0 [] (by simp[Act.eval]) LO.out ⟨U,j,none⟩ (c - j) (d - j) (bR (making.drop j)) (by simp[Act.eval]) Ad.out zR.out zG.out zK zI Y ?_;intro v4 o N l zT;have O4:=ae N;have la:=ae (HG.out o l).1;have n8:=ae (HG.out o l).2;have G4:=ae l;obtain⟨G,c4,cu4,rfl,Ah⟩:=N.2.resolve_left (fun h=>zL h.2);clear Ah N l zT;obtain⟨hbl4,-,-,-,-,-,f5,f6,f7,-,ff⟩:=(ShBox.blk K.out la.out).facts;have ff5:=ff 5;have ff6:=ff 6;have ff7:=ff 7;obtain⟨rl,r0,r1,r2,rf⟩:=aI (n8.out.trans Q.out);have rf0:=rf 0;have rf1:=rf 1;have rf2:=rf 2;have hbw2:¬ w.heap.size=hb:=(fun e=>hbw e.symm);have E:¬ hb=w.heap.size:=hbw;clear ff rf)
    | fail)
   refine bp (v:=.agg #[.int .i64 6,.string ⟨#[]⟩,.slice (some ⟨G,0,none⟩) (c - j) c4]) (by simp[results,Tryz.results155,go_sem,r0,r1,r2]) rfl ?_;have ex:(making.drop j).length=c - j:=by rw[List.length_drop,<-A.out]
   have Z:=la.out.trans K.out;have zF:=av Z (j:=5) (.int .i64 6);have zD:=av zF (j:=6) (.string ⟨#[]⟩);have Ac:=av zD (j:=7) (.slice (some ⟨G,0,none⟩) (c - j) c4);have J:(Value.slice (some ⟨G,0,none⟩) (c - j) c4).ownBlock≠some hb:=fun e=>by obtain⟨_,_,ur,D⟩:=ah O4.out hb (by simpa[Value.ownBlock] using e);exact absurd (ai Z D) (by decide)
   have O:(Value.slice (some ⟨G,0,none⟩) (c - j) c4).ownBlock≠some w.heap.size:=fun e=>by obtain⟨_,_,ur,D⟩:=ah O4.out w.heap.size (by simpa[Value.ownBlock] using e);exact absurd (ai (n8.out.trans Q.out) D) (by decide)
   have o4:o.ownsRow w0.heap.size 9 1 (.slice (some ⟨G,0,none⟩) (c - j) c4) (c - j) (bR (making.drop j)):=by have B:=O4.out;rw[Nat.zero_add,List.nil_append] at B;exact aB B (Nat.le_trans f R.out.below.size)
   have k4:KS w0.heap.size XN w o:=(R.out.to (KS.of_below (X:=XN) A4.out ly (Nat.le_trans f R.out.below.size))).to (KS.of_grown G4.out (Nat.le_trans (Nat.le_trans f R.out.below.size) Y) fun q hq=>by
    have I:q=b.heap.size:=(Option.some.inj hq).symm;refine⟨by rw[I];exact Nat.le_trans f R.out.below.size,.inr fun d t fz H=>?_⟩;rw[I] at H
    exact .inl (ai H (heap_alloc_new b _)))
   have z:∀ (W:World) (d:Array Value) (t:TypeId) (fz:Nat × Nat),W.heap[hb]?=o.heap[hb]?∨(∃ c2,W.heap[hb]?=some (.cells c2 125 (0,0)))->W.heap[hb]?=some (.cells d t fz)->t=9∨t=236∨t=125:=fun W d t fz hW H=>by
    rcases hW with hW | ⟨c2,hW⟩
    ·exact .inr (.inr (ai H (hW.trans Z)))
    ·exact .inr (.inr (ai H hW))
   refine⟨some ⟨G,0,none⟩,c4,by rw[ex];rfl,⟨_,_,_,_,_,(qh _ _ _ _ E).trans ((qh _ _ _ _ E).trans ((qh _ _ _ _ E).trans (by rw[ex];exact Ac))),?_⟩,?_⟩
   ·show World.ownsRow _ _ _ _ _ (making.drop j).length _
    rw[ex];exact ay (ay (ay (ay (ay (ay o4 J _ _) J _ _) J _ _) O _ _) O _ _) O _ _
   ·have k7:=((k4.to (KS.setCell (X:=XN) o fd (.inr fun d t fz=>z _ d t fz (.inl rfl)) (.int .i64 6) (j:=5))).to (KS.setCell (X:=XN) _ fd (.inr fun d t fz=>z _ d t fz (.inr ⟨_,zF⟩)) (.string ⟨#[]⟩) (j:=6))).to (KS.setCell (X:=XN) _ fd (.inr fun d t fz=>z _ d t fz (.inr ⟨_,zD⟩)) (.slice (some ⟨G,0,none⟩) (c - j) c4) (j:=7))
    refine((k7.trans (KS.setCell (X:=fun i=>i=w.heap.size) _ f (Or.inl rfl) _) ?_).trans (KS.setCell (X:=fun i=>i=w.heap.size) _ f (Or.inl rfl) _) ?_).trans (KS.setCell (X:=fun i=>i=w.heap.size) _ f (Or.inl rfl) _) ?_;all_goals
     intro i hi h;have I:i=w.heap.size:=h;omega
end
def dd (nm:ByteArray):SM:=⟨nm,0,⟨#[]⟩,[],.slice none 0 0,false⟩
theorem jz (w:World)(b f g k d c:Value)(t:TypeId):∀ j u,[b,f,g,k,d,c][j]?=some u->(w.alloc (.cells #[b,f,g,k,d,c] t)).cell? ((⟨w.heap.size,0,none⟩:Addr).add j)=some u:=by
 intro j u h;rw[addr_add];have hj:j<6:=by
  rcases Nat.lt_or_ge j 6 with i | i
  ·exact i
  ·rw[List.getElem?_eq_none (by simp;omega)] at h;cases h
 rcases(show j=0∨j=1∨j=2∨j=3∨j=4∨j=5 by omega) with rfl | rfl | rfl | rfl | rfl | rfl;all_goals
  simp at h;subst h;simp
theorem jA (w:World)(v:Value)(t:TypeId):∀ j u,[v][j]?=some u->(w.alloc (.cells #[v] t)).cell? ((⟨w.heap.size,0,none⟩:Addr).add j)=some u:=by
 intro j u h;rw[addr_add];have b:j=0:=by
  rcases Nat.lt_or_ge j 1 with c | c
  ·omega
  ·rw[List.getElem?_eq_none (by simp;omega)] at h;cases h
 subst b;simp at h;subst h;simp
theorem dQ {w:World}{b size n:Nat}{e:TypeId}{v:Value}{c:List Value}(h:w.ownsRow b e size v n c):∃ a cap,v=.slice a n cap:=by
 obtain⟨_,⟨rfl,rfl⟩ | ⟨g,cap,cur,rfl,_⟩⟩:=h
 ·exact⟨none,0,rfl⟩
 ·exact⟨_,_,rfl⟩
theorem KS.fresh {B:Nat}{W w:World}(h:KS B XN W w){b:Nat}(hb:W.heap.size<=b)(d:B<=W.heap.size)(j:Nat)(u:Value):KS B XN W (w.setCell ⟨b,j,none⟩ u) :=
 h.trans (KS.setCell (X:=fun i=>i=b) w (Nat.le_trans d hb) (Or.inl rfl) u) fun i hi c=>by have e2:i=b:=c;omega
section
variable {w0 w:World}{hb:Nat}{s0 s1 or st:Value}{making:List ByteArray}{made:List Ent}{L:List SM}
theorem SI.upd' {g cap k j N:Nat}{m m':SM}{u:Value}(f:L.length=N)(h:SI w0 hb s0 s1 w making made L (.slice (some ⟨g,0,none⟩) N cap) or st)(b:L[k]?=some m)(i:j<6)(d:smV m'=(smV m).set j u)(c:m'.done=true->w.ownsRow w0.heap.size 239 3 m'.sv m'.seen.length (df m'.seen)):SI w0 hb s0 s1 (w.setCell ⟨g,k*6+j,none⟩ u) making made (L.set k m') (.slice (some ⟨g,0,none⟩) N cap) or st/\KS w0.heap.size XN w (w.setCell ⟨g,k*6+j,none⟩ u)/\(L.set k m')[k]?=some m'/\(L.set k m').length=N:=by subst f;have:=h.upd b i d c;rw[List.length_set] at this;exact⟨this.1,this.2,List.getElem?_set_self (List.getElem?_eq_some_iff.1 b).1,List.length_set⟩
theorem SI.told {g cap k N:Nat}{m:SM}(z:L.length=N)(h:SI w0 hb s0 s1 w making made L (.slice (some ⟨g,0,none⟩) N cap) or st)(t:L[k]?=some m)(p:m.done=false)(b:Int)(c:ByteArray):SI w0 hb s0 s1 (((w.setCell ⟨g,k*6+1,none⟩ (.int .i64 b)).setCell ⟨g,k*6+1+1,none⟩ (.string c)).setCell ⟨g,k*6+1+2,none⟩ (.slice none 0 0)) making made (L.set k ⟨m.name,b,c,m.seen,m.sv,false⟩) (.slice (some ⟨g,0,none⟩) N cap) or st/\KS w0.heap.size XN w (((w.setCell ⟨g,k*6+1,none⟩ (.int .i64 b)).setCell ⟨g,k*6+1+1,none⟩ (.string c)).setCell ⟨g,k*6+1+2,none⟩ (.slice none 0 0))/\(L.set k ⟨m.name,b,c,m.seen,m.sv,false⟩)[k]?=some ⟨m.name,b,c,m.seen,m.sv,false⟩/\(L.set k ⟨m.name,b,c,m.seen,m.sv,false⟩).length=N:=by obtain⟨a1,q,r,l⟩:=h.upd' z t (j:=1) (by omega) (u:=.int .i64 b) (m':=⟨m.name,b,m.text,m.seen,m.sv,false⟩) (by simp[smV,p]) (fun h=>by cases h);obtain⟨n,o,y,x⟩:=a1.upd' l r (j:=2) (by omega) (u:=.string c) (m':=⟨m.name,b,c,m.seen,m.sv,false⟩) rfl (fun h=>by cases h);obtain⟨f,s,d,i⟩:=n.upd' x y (j:=3) (by omega) (m':=⟨m.name,b,c,m.seen,m.sv,false⟩) (u:=.slice none 0 0) rfl (fun h=>by cases h);rw[List.set_set,List.set_set] at f d i;exact⟨f,(q.to o).to s,d,i⟩
end
section
variable {w0:World}{S:Spc}{a0 a1:Option Addr}{c0 c1 hb:Nat}{md or st:Value}{making:List ByteArray}{made:List Ent}{L:List SM}
theorem uY (C:ju w0 S a0 a1)(w:World)(nm:ByteArray)(h:SI w0 hb (.slice a0 S.n0 c0) (.slice a1 S.n1 c1) w making made L md or st)(zW:L.length<=100000)(zO:made.length<=100000)(h1:fI L nm=none)(h2:atI (nm0 S.f0) S.n0 nm=none)(h3:atI (nm1 S.f1) S.n1 nm=none):Calls Tryz.prog 155 #[.pointer (some ⟨hb,0,none⟩),.string nm] w fun e w'=>∃ zV Ac,e=.returned (.agg #[.int .i64 4,.string nm,.slice none 0 0])/\SI w0 hb (.slice a0 S.n0 c0) (.slice a1 S.n1 c1) w' making (made++[⟨nm,2,0,⟨#[]⟩,0,[]⟩]) ((L++[dd nm]).set L.length ⟨nm,4,nm,[],.slice none 0 0,true⟩) zV Ac st/\KS w0.heap.size XN w w':=by
 obtain⟨im,zT,zZ,Ad,zP⟩:=ey jv;obtain⟨i1,zL,Ab,zS,Ai⟩:=ey fQ;have A0:=ae ((q9 w).alloc ly (.cells #[.int .i64 0,.string ⟨#[]⟩,.slice none 0 0] 41));have kr:Hid ((w.alloc (.cells #[.int .i64 0,.string ⟨#[]⟩,.slice none 0 0] 41)).heap[w.heap.size]?=some (.cells #[.int .i64 0,.string ⟨#[]⟩,.slice none 0 0] 41 (0,0))):=heap_alloc_new _ _;have S0:=ae (h.below A0.out ly);have y:w0.heap.size<=w.heap.size:=h.lt;have e1:cZ (fI L nm)=-1:=by rw[h1];rfl
 obtain⟨am,cm,rfl⟩:=dQ h.rmd;obtain⟨n,hn⟩:∃ n,n=L.length:=⟨_,rfl⟩
 have I:=ae hn;have CC:=ae C;have hsm:=C.ok.small;have hn1:n<=100000:=by omega
 clear h h1 hn C;have es:cZ (atI (nm0 S.f0) S.n0 nm)=-1:=by rw[h2];rfl
 have et:cZ (atI (nm1 S.f1) S.n1 nm)=-1:=by rw[h3];rfl
 clear h2 h3;go_enter Tryz.func155,Tryz.ntmps155;go_wp2_with fail;generalize w.alloc (.cells #[.int .i64 0,.string ⟨#[]⟩,.slice none 0 0] 41)=r at A0 kr S0 ⊢;refine(fP r nm S0.out zW).mono ?_;rintro e w1 ⟨rfl,zF⟩;rw[zF,e1];clear zF e1;obtain⟨p,-,-,G,-⟩:=S0.out.box.facts;rw[<-I.out] at G;have A1:=ae ((q9 r).alloc ly (.cells #[.string nm,.int .i64 0,.string ⟨#[]⟩,.slice none 0 0,.slice none 0 0,.bool false] 236));have SA:=ae (S0.out.below A1.out ly);have RM:=ae (by have h:=SA.out.rmd;rw[<-I.out] at h;exact h);have zQ:(r.alloc (.cells #[.string nm,.int .i64 0,.string ⟨#[]⟩,.slice none 0 0,.slice none 0 0,.bool false] 236)).heap.size=r.heap.size+1:=by simp
 have HG:Hid (∀ g:World,(r.alloc (.cells #[.string nm,.int .i64 0,.string ⟨#[]⟩,.slice none 0 0,.slice none 0 0,.bool false] 236)).grownBy g (Value.slice am n cm).ownBlock->g.heap[hb]?=(r.alloc (.cells #[.string nm,.int .i64 0,.string ⟨#[]⟩,.slice none 0 0,.slice none 0 0,.bool false] 236)).heap[hb]?):=fun g hg=>hg.block hb (by omega) fun e=>by obtain⟨_,_,cs,hc⟩:=ah RM.out hb e.symm;exact absurd (ai SA.out.box hc) (by decide)
 have zK:w0.heap.size<=(r.alloc (.cells #[.string nm,.int .i64 0,.string ⟨#[]⟩,.slice none 0 0,.slice none 0 0,.bool false] 236)).heap.size:=SA.out.lt;have hz1':r.heap.size<(r.alloc (.cells #[.string nm,.int .i64 0,.string ⟨#[]⟩,.slice none 0 0,.slice none 0 0,.bool false] 236)).heap.size:=by omega
 clear zQ
 go_upto_region 7 with (first
  | (at_builtin;refine aN _ rfl (.tmp 46) (.tmp 49) 123 rfl w0.heap.size 236 im (.agg #[.string ⟨#[]⟩,.int .i64 0,.string ⟨#[]⟩,.slice none 0 0,.slice none 0 0,.bool false]) 6 96 Tryz.underlying123 zT zZ Ad zP rfl (by decide) (.slice am n cm) n (L.flatMap smV) (by simp[Act.eval]) RM.out ⟨r.heap.size,0,none⟩ 1 1 [.string nm,.int .i64 0,.string ⟨#[]⟩,.slice none 0 0,.slice none 0 0,.bool false] (by simp[Act.eval]) rfl (jz r _ _ _ _ _ _ _) (by simp[Value.oneCell']) (by unfold maxLen;omega) (by omega) zK ?_;intro v2 g l d R;have O2:=ae l;have G2:=ae d;have zE:=ae (HG.out g d);obtain⟨b,s,cu2,rfl,Aa⟩:=l.2.resolve_left (fun h=>by omega);clear Aa l d R;obtain⟨zJ,-,-,f2,-,-,-,-,-,-,ff⟩:=(ShBox.blk SA.out.box zE.out).facts;have Ah:=ff 2;clear ff)
  | fail)
 have SX:=ae (SA.out.addL (m:=dd nm) (w':=g) (v:=.slice (some ⟨b,0,none⟩) (n+1) s) (by rw[<-I.out];exact G2.out) (by rw[<-I.out];exact O2.out) rfl);have S3:=ae SX.out.1;have K3:Hid (KS w0.heap.size XN w (g.setCell ⟨hb,2,none⟩ (.slice (some ⟨b,0,none⟩) (n+1) s))):=((KS.of_below (X:=XN) A0.out ly y).to (KS.of_below A1.out ly S0.out.lt)).to SX.out.2;have T:Hid ((g.setCell ⟨hb,2,none⟩ (.slice (some ⟨b,0,none⟩) (n+1) s)).heap[w.heap.size]?=some (.cells #[.int .i64 0,.string ⟨#[]⟩,.slice none 0 0] 41 (0,0))):=by have Z:=(A1.out.block _ (af kr.out)).trans kr.out;exact(SX.out.2.blk _ _ _ _ Z (by decide) (by decide) (by decide) fun h=>h).trans Z
 have H:(L++[dd nm]).length=n+1:=by rw[List.length_append,List.length_singleton,<-I.out]
 have Q:Hid ((L++[dd nm])[n]?=some (dd nm)):=by rw[I.out];show _=_;rw[List.getElem?_append_right ly,Nat.sub_self];rfl
 clear SX f2 Ah zJ G p RM SA A1 HG O2 G2 zE;generalize g.setCell ⟨hb,2,none⟩ (.slice (some ⟨b,0,none⟩) (n+1) s)=W3 at S3 K3 T ⊢;obtain⟨p,b0,b1,-⟩:=S3.out.box.facts;go_wp2_with fail;refine(dG a0 S.n0 c0 a1 S.n1 c1 S.f0 nm W3 (by omega) (CC.out.src.below S3.out.bel ly)).mono ?_;rintro e w4 ⟨he,D⟩;rw[es] at he;subst he;have S4:=ae (S3.out.below D ly);have aq:Hid (w4.heap[w.heap.size]?=_):=(D.block _ (af T.out)).trans T.out;have K4:=ae (K3.out.to (KS.of_below (X:=XN) D ly S3.out.lt));clear D b0 b1 p S3 K3 T;obtain⟨p,b0,b1,-⟩:=S4.out.box.facts;go_wp2_with fail;refine(dP a0 S.n0 c0 a1 S.n1 c1 S.f1 nm w4 (by omega) (CC.out.tgt.below S4.out.bel ly)).mono ?_;rintro e J ⟨he,D⟩;rw[et] at he;subst he;have S5:=ae (S4.out.below D ly);have ld:Hid (J.heap[w.heap.size]?=some (.cells #[.int .i64 0,.string ⟨#[]⟩,.slice none 0 0] 41 (0,0))):=(D.block _ (af aq.out)).trans aq.out;have K5:=ae (K4.out.to (KS.of_below (X:=XN) D ly S4.out.lt));clear D b0 b1 p S4 K4 aq A0 S0 kr;have A6:=ae ((q9 J).alloc ly (.cells #[.int .i64 4,.string nm,.slice none 0 0] 41));have O:Hid ((J.alloc (.cells #[.int .i64 4,.string nm,.slice none 0 0] 41)).heap[J.heap.size]?=some (.cells #[.int .i64 4,.string nm,.slice none 0 0] 41 (0,0))):=heap_alloc_new _ _;go_upto_region 13 with fail;generalize J.alloc (.cells #[.int .i64 4,.string nm,.slice none 0 0] 41)=k at A6 O ⊢;have S6:=ae (S5.out.below A6.out ly);have la:Hid (k.heap[w.heap.size]?=some (.cells #[.int .i64 0,.string ⟨#[]⟩,.slice none 0 0] 41 (0,0))):=(A6.out.block _ (af ld.out)).trans ld.out;have K6:=ae (K5.out.to (KS.of_below (X:=XN) A6.out ly S5.out.lt));obtain⟨f,ro⟩:∃ f,f=J.heap.size:=⟨_,rfl⟩
 rw[<-ro] at O ⊢;have hrbw:w.heap.size<=f:=by have:=K5.out.below.size;omega
 clear ro A6 S5 ld K5;obtain⟨p,-,-,G,-⟩:=S6.out.box.facts;obtain⟨rl,r0,r1,r2,-⟩:=aI O.out;obtain⟨hg2B,hg2l,Ae,fd⟩:=ah S6.out.rmd b rfl;have bt:=ae fd;have R6:=ae (by have h:=S6.out.rmd;rw[H] at h;exact h);have q1:k.cell? ⟨b,n*6+1,none⟩=some (.int .i64 0):=bC (by rw[H];exact R6.out) Q.out 1 (by omega) rfl;have q2:k.cell? ⟨b,n*6+1+1,none⟩=some (.string ⟨#[]⟩):=bC (by rw[H];exact R6.out) Q.out 2 (by omega) rfl;have q3:k.cell? ⟨b,n*6+1+2,none⟩=some (.slice none 0 0):=bC (by rw[H];exact R6.out) Q.out 3 (by omega) rfl;have qf:∀ j,k.frozen? ⟨b,j,none⟩=false:=fun j=>by simp[World.frozen?,fd]
 have zU:=qf (n*6+1);have zX:=qf (n*6+1+1);have zR:=qf (n*6+1+2);clear qf fd;have hIn:(n:Int)<(n:Int)+1:=by omega
 have M:b≠hb:=by intro e;have h:=bt.out;rw[e] at h;exact absurd (ai h S6.out.box) (by decide)
 have c:b≠f:=by intro e;have h:=bt.out;rw[e] at h;exact absurd (ai h O.out) (by decide)
 refine wp_region_held_drew (S:=fun V=>V.cell? ⟨hb,2,none⟩=some (.slice (some ⟨b,0,none⟩) (n+1) s)/\V.cell? ⟨f,0,none⟩=some (.int .i64 4)/\V.cell? ⟨f,1,none⟩=some (.string nm)/\V.cell? ⟨f,2,none⟩=some (.slice none 0 0)) (by as_aux_lemma=>kernel_rfl) ⟨G,r0,r1,r2⟩ (fun hS=>?_);have HS:=ae hS;clear hS
 iterate 3
  refine aF 0 (v:=?_) rfl rfl (by as_aux_lemma=>kernel_rfl) (fun _ _ _ h=>h) rfl ?_ HS.out ?_;rotate_left
  ·(intro wz z;obtain⟨s0,s1,s2,s3⟩:=z;go_simp)
   (try with_reducible rfl)
  (try simp only[Act.put,nzL])
 refine aF 4 (v:=?_) rfl rfl (by as_aux_lemma=>kernel_rfl) (fun _ _ _ h=>h) rfl ?_ HS.out ?_;rotate_left
 ·(intro wz z;obtain⟨s0,s1,s2,s3⟩:=z;go_simp)
  (try with_reducible rfl)
 (try simp only[Act.put,nzL])
 refine aF 3 (v:=?_) rfl rfl (by as_aux_lemma=>kernel_rfl) (fun _ _ _ h=>h) rfl ?_ HS.out ?_;rotate_left
 ·(intro wz z;obtain⟨s0,s1,s2,s3⟩:=z;go_simp)
  (try with_reducible rfl)
 (try simp only[Act.put,nzL])
 iterate 3
  refine aF 5 (v:=?_) rfl rfl (by as_aux_lemma=>kernel_rfl) (fun _ _ _ h=>h) rfl ?_ HS.out ?_;rotate_left
  ·(intro wz z;obtain⟨s0,s1,s2,s3⟩:=z;go_simp)
   (try with_reducible rfl)
  (try simp only[Act.put,nzL])
 have E:=ae (S6.out.told H Q.out rfl 4 nm)
 have sm:Hid ((((k.setCell ⟨b,n*6+1,none⟩ (.int .i64 4)).setCell ⟨b,n*6+1+1,none⟩ (.string nm)).setCell ⟨b,n*6+1+2,none⟩ (.slice none 0 0)).drew.cell? ⟨hb,2,none⟩=some (.slice (some ⟨b,0,none⟩) (n+1) s)/\(((k.setCell ⟨b,n*6+1,none⟩ (.int .i64 4)).setCell ⟨b,n*6+1+1,none⟩ (.string nm)).setCell ⟨b,n*6+1+2,none⟩ (.slice none 0 0)).drew.cell? ⟨f,0,none⟩=some (.int .i64 4)/\(((k.setCell ⟨b,n*6+1,none⟩ (.int .i64 4)).setCell ⟨b,n*6+1+1,none⟩ (.string nm)).setCell ⟨b,n*6+1+2,none⟩ (.slice none 0 0)).drew.cell? ⟨f,1,none⟩=some (.string nm)/\(((k.setCell ⟨b,n*6+1,none⟩ (.int .i64 4)).setCell ⟨b,n*6+1+1,none⟩ (.string nm)).setCell ⟨b,n*6+1+2,none⟩ (.slice none 0 0)).drew.cell? ⟨f,2,none⟩=some (.slice none 0 0)) :=
  ⟨(cell_far _ _ _ _ M).trans ((cell_far _ _ _ _ M).trans ((cell_far _ _ _ _ M).trans G)),(cell_far _ _ _ _ c).trans ((cell_far _ _ _ _ c).trans ((cell_far _ _ _ _ c).trans r0)),(cell_far _ _ _ _ c).trans ((cell_far _ _ _ _ c).trans ((cell_far _ _ _ _ c).trans r1)),(cell_far _ _ _ _ c).trans ((cell_far _ _ _ _ c).trans ((cell_far _ _ _ _ c).trans r2))⟩
 refine aK (i:=8) rfl (by as_aux_lemma=>kernel_rfl) (fun K hK=>?_);go_simp;refine hK.out _ _ sm.out ?_;clear hK K HS q1 q2 q3 zU zX zR G r0 r1 r2 rl
 (try simp only[Act.put])
 refine wpAnyH_done (by as_aux_lemma=>kernel_rfl) ?_ _;have D7:Hid (Below (((k.setCell ⟨b,n*6+1,none⟩ (.int .i64 4)).setCell ⟨b,n*6+1+1,none⟩ (.string nm)).setCell ⟨b,n*6+1+2,none⟩ (.slice none 0 0)).heap.size (((k.setCell ⟨b,n*6+1,none⟩ (.int .i64 4)).setCell ⟨b,n*6+1+1,none⟩ (.string nm)).setCell ⟨b,n*6+1+2,none⟩ (.slice none 0 0)) (((k.setCell ⟨b,n*6+1,none⟩ (.int .i64 4)).setCell ⟨b,n*6+1+1,none⟩ (.string nm)).setCell ⟨b,n*6+1+2,none⟩ (.slice none 0 0)).drew):=br.drew;have Y:=ae (E.out.1.below D7.out ly);have K7:=ae (K6.out.to (E.out.2.1.to (KS.of_below (X:=XN) D7.out ly E.out.1.lt)));have ur:=E.out.2.2.1;have mv:=E.out.2.2.2;have P:Hid ((((k.setCell ⟨b,n*6+1,none⟩ (.int .i64 4)).setCell ⟨b,n*6+1+1,none⟩ (.string nm)).setCell ⟨b,n*6+1+2,none⟩ (.slice none 0 0)).drew.heap[w.heap.size]?=some (.cells #[.int .i64 0,.string ⟨#[]⟩,.slice none 0 0] 41 (0,0))):=by have Z:=(E.out.2.1.blk _ _ _ _ la.out (by decide) (by decide) (by decide) fun h=>h).trans la.out;exact Z
 have U:Hid ((((k.setCell ⟨b,n*6+1,none⟩ (.int .i64 4)).setCell ⟨b,n*6+1+1,none⟩ (.string nm)).setCell ⟨b,n*6+1+2,none⟩ (.slice none 0 0)).drew.heap[f]?=some (.cells #[.int .i64 4,.string nm,.slice none 0 0] 41 (0,0))):=by have Z:=(E.out.2.1.blk _ _ _ _ O.out (by decide) (by decide) (by decide) fun h=>h).trans O.out;exact Z
 have n9:=ae ur;have zG:=ae mv;clear E sm ur mv la O K6 S6 R6 bt D7;generalize (((k.setCell ⟨b,n*6+1,none⟩ (.int .i64 4)).setCell ⟨b,n*6+1+1,none⟩ (.string nm)).setCell ⟨b,n*6+1+2,none⟩ (.slice none 0 0)).drew=W7 at Y K7 P U ⊢;obtain⟨p,-,-,G,-⟩:=Y.out.box.facts;obtain⟨hg2B',hg2l',cs7,th⟩:=ah Y.out.rmd b rfl;have q5:W7.cell? ⟨b,n*6+5,none⟩=some (.bool false):=bC (by have h:=Y.out.rmd;rw[zG.out] at h ⊢;exact h) n9.out 5 (by omega) rfl;have zM:W7.frozen? ⟨b,n*6+5,none⟩=false:=by simp[World.frozen?,th]
 have TD:=ae (Y.out.upd' zG.out n9.out (j:=5) (by omega) (u:=.bool true) (m':=⟨nm,4,nm,[],.slice none 0 0,true⟩) rfl (fun _=>⟨rfl,.inl ⟨rfl,rfl⟩⟩));have B:Hid ((W7.setCell ⟨b,n*6+5,none⟩ (.bool true)).heap[w.heap.size]?=some (.cells #[.int .i64 0,.string ⟨#[]⟩,.slice none 0 0] 41 (0,0))):=(TD.out.2.1.blk _ _ _ _ P.out (by decide) (by decide) (by decide) fun h=>h).trans P.out;have A:Hid ((W7.setCell ⟨b,n*6+5,none⟩ (.bool true)).heap[f]?=some (.cells #[.int .i64 4,.string nm,.slice none 0 0] 41 (0,0))):=(TD.out.2.1.blk _ _ _ _ U.out (by decide) (by decide) (by decide) fun h=>h).trans U.out;have N:=ae TD.out.1;have K8:=ae (K7.out.to TD.out.2.1);clear th;go_upto_region 15 with fail;clear G q5 zM TD Y K7 P U;generalize W7.setCell ⟨b,n*6+5,none⟩ (.bool true)=o at N K8 B A ⊢;obtain⟨ao,co,rfl⟩:=dQ N.out.ror;obtain⟨q,hq⟩:∃ q,q=made.length:=⟨_,rfl⟩
 have HQ:=ae hq;rw[<-hq] at zO;clear hq;obtain⟨p,-,-,-,b3,-⟩:=N.out.box.facts;rw[<-HQ.out] at b3;have A9:=ae ((q9 o).alloc ly (.cells #[.string nm] 9));have S9:=ae (N.out.below A9.out ly);have RO:=ae (by have h:=S9.out.ror;rw[<-HQ.out] at h;exact h);have zI:w0.heap.size<=(o.alloc (.cells #[.string nm] 9)).heap.size:=S9.out.lt;have HG:Hid (∀ g:World,(o.alloc (.cells #[.string nm] 9)).grownBy g (Value.slice ao q co).ownBlock->g.heap[hb]?=(o.alloc (.cells #[.string nm] 9)).heap[hb]?/\g.heap[w.heap.size]?=(o.alloc (.cells #[.string nm] 9)).heap[w.heap.size]?/\g.heap[f]?=(o.alloc (.cells #[.string nm] 9)).heap[f]?):=fun g hg=>by
  have ex:∀ (i:Nat) (cs:Array Value) (t:TypeId) (fz:Nat × Nat),(o.alloc (.cells #[.string nm] 9)).heap[i]?=some (Obj.cells cs t fz)->t≠9->g.heap[i]?=(o.alloc (.cells #[.string nm] 9)).heap[i]?:=fun i cs t fz hi ht=>hg.block i (af hi) fun e=>by obtain⟨_,_,Ae,hc⟩:=ah RO.out i e.symm;exact ht (ai hi hc)
  exact⟨ex _ _ _ _ S9.out.box (by decide),ex _ _ _ _ ((A9.out.block _ (af B.out)).trans B.out) (by decide),ex _ _ _ _ ((A9.out.block _ (af A.out)).trans A.out) (by decide)⟩
 have qr:Hid ((o.alloc (.cells #[.string nm] 9)).heap[w.heap.size]?=some (.cells #[.int .i64 0,.string ⟨#[]⟩,.slice none 0 0] 41 (0,0))):=(A9.out.block _ (af B.out)).trans B.out;have Af:Hid ((o.alloc (.cells #[.string nm] 9)).heap[f]?=some (.cells #[.int .i64 4,.string nm,.slice none 0 0] 41 (0,0))):=(A9.out.block _ (af A.out)).trans A.out;have hbw:¬ hb=w.heap.size:=fun e=>by have h:=N.out.box;unfold ShBox at h;rw[e] at h;exact absurd (ai h B.out) (by decide)
 have zH:¬ w.heap.size=hb:=fun e=>hbw e.symm;have zN:¬ hb=f:=fun e=>by have h:=N.out.box;unfold ShBox at h;rw[e] at h;exact absurd (ai h A.out) (by decide)
 have hbr':¬ f=hb:=fun e=>zN e.symm
 go_wp2_with (first
  | (at_builtin;refine aN _ rfl (.tmp 100) (.tmp 102) 39 rfl w0.heap.size 9 i1 (.string ⟨#[]⟩) 1 16 Tryz.underlying39 zL Ab zS Ai rfl (by decide) (.slice ao q co) q (bR (made.map (·.name))) (by simp[Act.eval]) RO.out ⟨o.heap.size,0,none⟩ 1 1 [.string nm] (by simp[Act.eval]) rfl (jA o _ _) (by simp[Value.oneCell']) (by unfold maxLen;omega) (by omega) zI ?_;intro v9 w9 l d R;have O9:=ae l;have G9:=ae d;have zY:=ae R;have W:=ae (HG.out w9 d);obtain⟨g9,c9,cu9,rfl,Ag⟩:=l.2.resolve_left (fun h=>by omega);clear Ag l d R;obtain⟨hbl9,-,-,-,f3,-,-,-,-,-,ff⟩:=(ShBox.blk S9.out.box W.out.1).facts;have ff3:=ff 3;obtain⟨rl,r0,r1,r2,rf⟩:=aI (W.out.2.1.trans qr.out);have rf0:=rf 0;have rf1:=rf 1;have rf2:=rf 2;obtain⟨pl,p0,p1,p2,pf⟩:=aI (W.out.2.2.trans Af.out);clear ff rf pf)
  | fail)
 have zD:=ae (S9.out.ord (x:=⟨nm,2,0,⟨#[]⟩,0,[]⟩) (w':=w9) (v:=.slice (some ⟨g9,0,none⟩) (q+1) c9) (by rw[<-HQ.out];exact G9.out) (by rw[<-HQ.out];exact O9.out) (by rw[<-HQ.out];exact zY.out));refine bp (v:=.agg #[.int .i64 4,.string nm,.slice none 0 0]) (by simp[results,Tryz.results155,go_sem,r0,r1,r2]) rfl ?_;have n8:=(qh w9 ⟨hb,3,none⟩ (.slice (some ⟨g9,0,none⟩) (q+1) c9) w.heap.size zH).trans (W.out.2.1.trans qr.out);refine⟨.slice (some ⟨b,0,none⟩) (n+1) s,.slice (some ⟨g9,0,none⟩) (q+1) c9,rfl,?_,?_⟩
 ·rw[<-I.out]
  have x0:=zD.out.1;rw[List.set_set] at x0;replace x0:=x0.setOff n8 ⟨by decide,by decide,by decide,by decide⟩ y 0 (.int .i64 4);have y0:=av n8 (j:=0) (.int .i64 4);have x1:=x0.setOff y0 ⟨by decide,by decide,by decide,by decide⟩ y 1 (.string nm);exact x1.setOff (av y0 (j:=1) (.string nm)) ⟨by decide,by decide,by decide,by decide⟩ y 2 (.slice none 0 0)
 ·have k0:=(K8.out.to (KS.of_below (X:=XN) A9.out ly N.out.lt)).to zD.out.2
  exact((k0.fresh ly y 0 _).fresh ly y 1 _).fresh ly y 2 _
end
section
variable {w0:World}{S:Spc}{a0 a1:Option Addr}{c0 c1 hb:Nat}{md or st:Value}{making:List ByteArray}{made:List Ent}{L:List SM}
theorem xj (C:ju w0 S a0 a1)(w:World)(nm:ByteArray)(h:SI w0 hb (.slice a0 S.n0 c0) (.slice a1 S.n1 c1) w making made L md or st)(Ac:L.length<=100000)(zU:made.length<=100000)(h1:fI L nm=none)(si:Nat)(h2:atI (nm0 S.f0) S.n0 nm=some si)(h3:atI (nm1 S.f1) S.n1 nm=none):Calls Tryz.prog 155 #[.pointer (some ⟨hb,0,none⟩),.string nm] w fun e w'=>∃ Ab Aj,e=.returned (.agg #[.int .i64 0,.string (S.f0 si).text,.slice none 0 0])/\SI w0 hb (.slice a0 S.n0 c0) (.slice a1 S.n1 c1) w' making (made++[⟨nm,1,0,(S.f0 si).text,0,[]⟩]) ((L++[dd nm]).set L.length ⟨nm,0,(S.f0 si).text,[],.slice none 0 0,true⟩) Ab Aj st/\KS w0.heap.size XN w w':=by
 obtain⟨im,zZ,Af,Ak,zV⟩:=ey jv;obtain⟨i1,zQ,Ai,zY,Ap⟩:=ey fQ;have A0:=ae ((q9 w).alloc ly (.cells #[.int .i64 0,.string ⟨#[]⟩,.slice none 0 0] 41));have kr:Hid ((w.alloc (.cells #[.int .i64 0,.string ⟨#[]⟩,.slice none 0 0] 41)).heap[w.heap.size]?=some (.cells #[.int .i64 0,.string ⟨#[]⟩,.slice none 0 0] 41 (0,0))):=heap_alloc_new _ _;have S0:=ae (h.below A0.out ly);have A:w0.heap.size<=w.heap.size:=h.lt;have e1:cZ (fI L nm)=-1:=by rw[h1];rfl
 obtain⟨am,cm,rfl⟩:=dQ h.rmd;obtain⟨n,hn⟩:∃ n,n=L.length:=⟨_,rfl⟩
 have M:=ae hn;have CC:=ae C;have hsm:=C.ok.small;have hn1:n<=100000:=by omega
 clear h h1 hn C;have es:cZ (atI (nm0 S.f0) S.n0 nm)=(si:Int):=by rw[h2];rfl
 have et:cZ (atI (nm1 S.f1) S.n1 nm)=-1:=by rw[h3];rfl
 have zT:=(b9 h2).1;obtain⟨sb,so,th,sm⟩:∃ sb so,a0=some ⟨sb,so,none⟩/\RowSource w0 sb so S.n0 S.f0:=by
  rcases CC.out.src with h | ⟨b,off,e,hr⟩
  ·omega
  ·exact⟨b,off,e,hr⟩
 have zI:=ae sm;have Ag:=ae th;obtain⟨tx,bt⟩:∃ tx,tx=(S.f0 si).text:=⟨_,rfl⟩
 have Aq:=ae bt;rw[<-bt];clear h2 h3 sm bt th;go_enter Tryz.func155,Tryz.ntmps155;go_wp2_with fail;generalize w.alloc (.cells #[.int .i64 0,.string ⟨#[]⟩,.slice none 0 0] 41)=y at A0 kr S0 ⊢;refine(fP y nm S0.out Ac).mono ?_;rintro e w1 ⟨rfl,zK⟩;rw[zK,e1];clear zK e1;obtain⟨l,-,-,I,-⟩:=S0.out.box.facts;rw[<-M.out] at I;have A1:=ae ((q9 y).alloc ly (.cells #[.string nm,.int .i64 0,.string ⟨#[]⟩,.slice none 0 0,.slice none 0 0,.bool false] 236));have SA:=ae (S0.out.below A1.out ly);have RM:=ae (by have h:=SA.out.rmd;rw[<-M.out] at h;exact h);have zW:(y.alloc (.cells #[.string nm,.int .i64 0,.string ⟨#[]⟩,.slice none 0 0,.slice none 0 0,.bool false] 236)).heap.size=y.heap.size+1:=by simp
 have HG:Hid (∀ k:World,(y.alloc (.cells #[.string nm,.int .i64 0,.string ⟨#[]⟩,.slice none 0 0,.slice none 0 0,.bool false] 236)).grownBy k (Value.slice am n cm).ownBlock->k.heap[hb]?=(y.alloc (.cells #[.string nm,.int .i64 0,.string ⟨#[]⟩,.slice none 0 0,.slice none 0 0,.bool false] 236)).heap[hb]?):=fun k hg=>hg.block hb (by omega) fun e=>by obtain⟨_,_,cs,hc⟩:=ah RM.out hb e.symm;exact absurd (ai SA.out.box hc) (by decide)
 have zP:w0.heap.size<=(y.alloc (.cells #[.string nm,.int .i64 0,.string ⟨#[]⟩,.slice none 0 0,.slice none 0 0,.bool false] 236)).heap.size:=SA.out.lt;have hz1':y.heap.size<(y.alloc (.cells #[.string nm,.int .i64 0,.string ⟨#[]⟩,.slice none 0 0,.slice none 0 0,.bool false] 236)).heap.size:=by omega
 clear zW
 go_upto_region 7 with (first
  | (at_builtin;refine aN _ rfl (.tmp 46) (.tmp 49) 123 rfl w0.heap.size 236 im (.agg #[.string ⟨#[]⟩,.int .i64 0,.string ⟨#[]⟩,.slice none 0 0,.slice none 0 0,.bool false]) 6 96 Tryz.underlying123 zZ Af Ak zV rfl (by decide) (.slice am n cm) n (L.flatMap smV) (by simp[Act.eval]) RM.out ⟨y.heap.size,0,none⟩ 1 1 [.string nm,.int .i64 0,.string ⟨#[]⟩,.slice none 0 0,.slice none 0 0,.bool false] (by simp[Act.eval]) rfl (jz y _ _ _ _ _ _ _) (by simp[Value.oneCell']) (by unfold maxLen;omega) (by omega) zP ?_;intro v2 k p f T;have O2:=ae p;have G2:=ae f;have zJ:=ae (HG.out k f);obtain⟨c,z,cu2,rfl,Ah⟩:=p.2.resolve_left (fun h=>by omega);clear Ah p f T;obtain⟨zO,-,-,f2,-,-,-,-,-,-,ff⟩:=(ShBox.blk SA.out.box zJ.out).facts;have Ao:=ff 2;clear ff)
  | fail)
 have SX:=ae (SA.out.addL (m:=dd nm) (w':=k) (v:=.slice (some ⟨c,0,none⟩) (n+1) z) (by rw[<-M.out];exact G2.out) (by rw[<-M.out];exact O2.out) rfl);have S3:=ae SX.out.1;have K3:Hid (KS w0.heap.size XN w (k.setCell ⟨hb,2,none⟩ (.slice (some ⟨c,0,none⟩) (n+1) z))):=((KS.of_below (X:=XN) A0.out ly A).to (KS.of_below A1.out ly S0.out.lt)).to SX.out.2;have U:Hid ((k.setCell ⟨hb,2,none⟩ (.slice (some ⟨c,0,none⟩) (n+1) z)).heap[w.heap.size]?=some (.cells #[.int .i64 0,.string ⟨#[]⟩,.slice none 0 0] 41 (0,0))):=by have h0:=(A1.out.block _ (af kr.out)).trans kr.out;exact(SX.out.2.blk _ _ _ _ h0 (by decide) (by decide) (by decide) fun h=>h).trans h0
 have J:(L++[dd nm]).length=n+1:=by rw[List.length_append,List.length_singleton,<-M.out]
 have R:Hid ((L++[dd nm])[n]?=some (dd nm)):=by rw[M.out];show _=_;rw[List.getElem?_append_right ly,Nat.sub_self];rfl
 clear SX f2 Ao zO I l RM SA A1 HG O2 G2 zJ;generalize k.setCell ⟨hb,2,none⟩ (.slice (some ⟨c,0,none⟩) (n+1) z)=W3 at S3 K3 U ⊢;obtain⟨l,b0,b1,-⟩:=S3.out.box.facts;go_wp2_with fail;refine(dG a0 S.n0 c0 a1 S.n1 c1 S.f0 nm W3 (by omega) (CC.out.src.below S3.out.bel ly)).mono ?_;rintro e w4 ⟨he,G⟩;rw[es] at he;subst he;have S4:=ae (S3.out.below G ly);have aq:Hid (w4.heap[w.heap.size]?=_):=(G.block _ (af U.out)).trans U.out;have K4:=ae (K3.out.to (KS.of_below (X:=XN) G ly S3.out.lt));clear G b0 b1 l S3 K3 U;obtain⟨l,b0,b1,-⟩:=S4.out.box.facts;go_wp2_with fail;refine(dP a0 S.n0 c0 a1 S.n1 c1 S.f1 nm w4 (by omega) (CC.out.tgt.below S4.out.bel ly)).mono ?_;rintro e s ⟨he,G⟩;rw[et] at he;subst he;have Z:=ae (S4.out.below G ly);have n8:Hid (s.heap[w.heap.size]?=some (.cells #[.int .i64 0,.string ⟨#[]⟩,.slice none 0 0] 41 (0,0))):=(G.block _ (af aq.out)).trans aq.out;have K5:=ae (K4.out.to (KS.of_below (X:=XN) G ly S4.out.lt));clear G b0 b1 l S4 K4 aq A0 S0 kr;have A5:=ae ((q9 s).alloc ly (.cells #[.int .i64 4,.string nm,.slice none 0 0] 41));have fd:=ae (Z.out.below A5.out ly);have hI0:(0:Int)<=(si:Int):=by omega
 have hI1:(si:Int)<(S.n0:Int):=by omega
 have q0:(s.alloc (.cells #[.int .i64 4,.string nm,.slice none 0 0] 41)).cell? ⟨hb,0,none⟩=some (.slice (some ⟨sb,so,none⟩) S.n0 c0):=by have h:=fd.out.box.facts.2.1;rw[Ag.out] at h;exact h
 have q1:(s.alloc (.cells #[.int .i64 4,.string nm,.slice none 0 0] 41)).cell? ⟨sb,so+si*2+1,none⟩=some (.string tx):=by rw[Aq.out];exact((zI.out.below fd.out.bel ly).2 si zT).2
 have l:=Z.out.box.facts.1;have ql:sb<s.heap.size:=lj zI.out.1 Z.out.lt;go_upto_region 13 with fail;clear q0 q1 ql l A5 fd;have A6:=ae ((q9 s).alloc ly (.cells #[.int .i64 0,.string tx,.slice none 0 0] 41));have P:Hid ((s.alloc (.cells #[.int .i64 0,.string tx,.slice none 0 0] 41)).heap[s.heap.size]?=some (.cells #[.int .i64 0,.string tx,.slice none 0 0] 41 (0,0))):=heap_alloc_new _ _;generalize s.alloc (.cells #[.int .i64 0,.string tx,.slice none 0 0] 41)=o at A6 P ⊢;have S6:=ae (Z.out.below A6.out ly);have mv:Hid (o.heap[w.heap.size]?=some (.cells #[.int .i64 0,.string ⟨#[]⟩,.slice none 0 0] 41 (0,0))):=(A6.out.block _ (af n8.out)).trans n8.out;have K6:=ae (K5.out.to (KS.of_below (X:=XN) A6.out ly Z.out.lt));obtain⟨g,zD⟩:∃ g,g=s.heap.size:=⟨_,rfl⟩
 rw[<-zD] at P ⊢;have hrbw:w.heap.size<=g:=by have:=K5.out.below.size;omega
 clear zD A6 Z n8 K5;obtain⟨l,-,-,I,-⟩:=S6.out.box.facts;obtain⟨rl,r0,r1,r2,-⟩:=aI P.out;obtain⟨hg2B,hg2l,Al,ld⟩:=ah S6.out.rmd c rfl;have ex:=ae ld;have R6:=ae (by have h:=S6.out.rmd;rw[J] at h;exact h);have q1:o.cell? ⟨c,n*6+1,none⟩=some (.int .i64 0):=bC (by rw[J];exact R6.out) R.out 1 (by omega) rfl;have q2:o.cell? ⟨c,n*6+1+1,none⟩=some (.string ⟨#[]⟩):=bC (by rw[J];exact R6.out) R.out 2 (by omega) rfl;have q3:o.cell? ⟨c,n*6+1+2,none⟩=some (.slice none 0 0):=bC (by rw[J];exact R6.out) R.out 3 (by omega) rfl;have qf:∀ j,o.frozen? ⟨c,j,none⟩=false:=fun j=>by simp[World.frozen?,ld]
 have Aa:=qf (n*6+1);have Ad:=qf (n*6+1+1);have zX:=qf (n*6+1+2);clear qf ld;have hIn:(n:Int)<(n:Int)+1:=by omega
 have N:c≠hb:=by intro e;have h:=ex.out;rw[e] at h;exact absurd (ai h S6.out.box) (by decide)
 have d:c≠g:=by intro e;have h:=ex.out;rw[e] at h;exact absurd (ai h P.out) (by decide)
 refine wp_region_held_drew (S:=fun V=>V.cell? ⟨hb,2,none⟩=some (.slice (some ⟨c,0,none⟩) (n+1) z)/\V.cell? ⟨g,0,none⟩=some (.int .i64 0)/\V.cell? ⟨g,1,none⟩=some (.string tx)/\V.cell? ⟨g,2,none⟩=some (.slice none 0 0)) (by as_aux_lemma=>kernel_rfl) ⟨I,r0,r1,r2⟩ (fun hS=>?_);have HS:=ae hS;clear hS
 iterate 3
  refine aF 0 (v:=?_) rfl rfl (by as_aux_lemma=>kernel_rfl) (fun _ _ _ h=>h) rfl ?_ HS.out ?_;rotate_left
  ·(intro wz B;obtain⟨s0,s1,s2,s3⟩:=B;go_simp)
   (try with_reducible rfl)
  (try simp only[Act.put,nzL])
 refine aF 4 (v:=?_) rfl rfl (by as_aux_lemma=>kernel_rfl) (fun _ _ _ h=>h) rfl ?_ HS.out ?_;rotate_left
 ·(intro wz B;obtain⟨s0,s1,s2,s3⟩:=B;go_simp)
  (try with_reducible rfl)
 (try simp only[Act.put,nzL])
 refine aF 3 (v:=?_) rfl rfl (by as_aux_lemma=>kernel_rfl) (fun _ _ _ h=>h) rfl ?_ HS.out ?_;rotate_left
 ·(intro wz B;obtain⟨s0,s1,s2,s3⟩:=B;go_simp)
  (try with_reducible rfl)
 (try simp only[Act.put,nzL])
 iterate 3
  refine aF 5 (v:=?_) rfl rfl (by as_aux_lemma=>kernel_rfl) (fun _ _ _ h=>h) rfl ?_ HS.out ?_;rotate_left
  ·(intro wz B;obtain⟨s0,s1,s2,s3⟩:=B;go_simp)
   (try with_reducible rfl)
  (try simp only[Act.put,nzL])
 have H:=ae (S6.out.told J R.out rfl 0 tx)
 have zE:Hid ((((o.setCell ⟨c,n*6+1,none⟩ (.int .i64 0)).setCell ⟨c,n*6+1+1,none⟩ (.string tx)).setCell ⟨c,n*6+1+2,none⟩ (.slice none 0 0)).drew.cell? ⟨hb,2,none⟩=some (.slice (some ⟨c,0,none⟩) (n+1) z)/\(((o.setCell ⟨c,n*6+1,none⟩ (.int .i64 0)).setCell ⟨c,n*6+1+1,none⟩ (.string tx)).setCell ⟨c,n*6+1+2,none⟩ (.slice none 0 0)).drew.cell? ⟨g,0,none⟩=some (.int .i64 0)/\(((o.setCell ⟨c,n*6+1,none⟩ (.int .i64 0)).setCell ⟨c,n*6+1+1,none⟩ (.string tx)).setCell ⟨c,n*6+1+2,none⟩ (.slice none 0 0)).drew.cell? ⟨g,1,none⟩=some (.string tx)/\(((o.setCell ⟨c,n*6+1,none⟩ (.int .i64 0)).setCell ⟨c,n*6+1+1,none⟩ (.string tx)).setCell ⟨c,n*6+1+2,none⟩ (.slice none 0 0)).drew.cell? ⟨g,2,none⟩=some (.slice none 0 0)) :=
  ⟨(cell_far _ _ _ _ N).trans ((cell_far _ _ _ _ N).trans ((cell_far _ _ _ _ N).trans I)),(cell_far _ _ _ _ d).trans ((cell_far _ _ _ _ d).trans ((cell_far _ _ _ _ d).trans r0)),(cell_far _ _ _ _ d).trans ((cell_far _ _ _ _ d).trans ((cell_far _ _ _ _ d).trans r1)),(cell_far _ _ _ _ d).trans ((cell_far _ _ _ _ d).trans ((cell_far _ _ _ _ d).trans r2))⟩
 refine aK (i:=8) rfl (by as_aux_lemma=>kernel_rfl) (fun K hK=>?_);go_simp;refine hK.out _ _ zE.out ?_;clear hK K HS q1 q2 q3 Aa Ad zX I r0 r1 r2 rl
 (try simp only[Act.put])
 refine wpAnyH_done (by as_aux_lemma=>kernel_rfl) ?_ _;have D7:Hid (Below (((o.setCell ⟨c,n*6+1,none⟩ (.int .i64 0)).setCell ⟨c,n*6+1+1,none⟩ (.string tx)).setCell ⟨c,n*6+1+2,none⟩ (.slice none 0 0)).heap.size (((o.setCell ⟨c,n*6+1,none⟩ (.int .i64 0)).setCell ⟨c,n*6+1+1,none⟩ (.string tx)).setCell ⟨c,n*6+1+2,none⟩ (.slice none 0 0)) (((o.setCell ⟨c,n*6+1,none⟩ (.int .i64 0)).setCell ⟨c,n*6+1+1,none⟩ (.string tx)).setCell ⟨c,n*6+1+2,none⟩ (.slice none 0 0)).drew):=br.drew;have S7:=ae (H.out.1.below D7.out ly);have K7:=ae (K6.out.to (H.out.2.1.to (KS.of_below (X:=XN) D7.out ly H.out.1.lt)));have zG:=H.out.2.2.1;have n9:=H.out.2.2.2;have Q:Hid ((((o.setCell ⟨c,n*6+1,none⟩ (.int .i64 0)).setCell ⟨c,n*6+1+1,none⟩ (.string tx)).setCell ⟨c,n*6+1+2,none⟩ (.slice none 0 0)).drew.heap[w.heap.size]?=some (.cells #[.int .i64 0,.string ⟨#[]⟩,.slice none 0 0] 41 (0,0))):=by have h0:=(H.out.2.1.blk _ _ _ _ mv.out (by decide) (by decide) (by decide) fun h=>h).trans mv.out;exact h0
 have W:Hid ((((o.setCell ⟨c,n*6+1,none⟩ (.int .i64 0)).setCell ⟨c,n*6+1+1,none⟩ (.string tx)).setCell ⟨c,n*6+1+2,none⟩ (.slice none 0 0)).drew.heap[g]?=some (.cells #[.int .i64 0,.string tx,.slice none 0 0] 41 (0,0))):=by have h0:=(H.out.2.1.blk _ _ _ _ P.out (by decide) (by decide) (by decide) fun h=>h).trans P.out;exact h0
 have ro:=ae zG;have zL:=ae n9;clear H zE zG n9 mv P K6 S6 R6 ex D7;generalize (((o.setCell ⟨c,n*6+1,none⟩ (.int .i64 0)).setCell ⟨c,n*6+1+1,none⟩ (.string tx)).setCell ⟨c,n*6+1+2,none⟩ (.slice none 0 0)).drew=W7 at S7 K7 Q W ⊢;obtain⟨l,-,-,I,-⟩:=S7.out.box.facts;obtain⟨hg2B',hg2l',cs7,zF⟩:=ah S7.out.rmd c rfl;have q5:W7.cell? ⟨c,n*6+5,none⟩=some (.bool false):=bC (by have h:=S7.out.rmd;rw[zL.out] at h ⊢;exact h) ro.out 5 (by omega) rfl;have zR:W7.frozen? ⟨c,n*6+5,none⟩=false:=by simp[World.frozen?,zF]
 have TD:=ae (S7.out.upd' zL.out ro.out (j:=5) (by omega) (u:=.bool true) (m':=⟨nm,0,tx,[],.slice none 0 0,true⟩) rfl (fun _=>⟨rfl,.inl ⟨rfl,rfl⟩⟩));have E:Hid ((W7.setCell ⟨c,n*6+5,none⟩ (.bool true)).heap[w.heap.size]?=some (.cells #[.int .i64 0,.string ⟨#[]⟩,.slice none 0 0] 41 (0,0))):=(TD.out.2.1.blk _ _ _ _ Q.out (by decide) (by decide) (by decide) fun h=>h).trans Q.out;have D:Hid ((W7.setCell ⟨c,n*6+5,none⟩ (.bool true)).heap[g]?=some (.cells #[.int .i64 0,.string tx,.slice none 0 0] 41 (0,0))):=(TD.out.2.1.blk _ _ _ _ W.out (by decide) (by decide) (by decide) fun h=>h).trans W.out;have O:=ae TD.out.1;have K8:=ae (K7.out.to TD.out.2.1);clear zF;go_upto_region 15 with fail;clear I q5 zR TD S7 K7 Q W;generalize W7.setCell ⟨c,n*6+5,none⟩ (.bool true)=r at O K8 E D ⊢;obtain⟨ao,co,rfl⟩:=dQ O.out.ror;obtain⟨q,hq⟩:∃ q,q=made.length:=⟨_,rfl⟩
 have HQ:=ae hq;rw[<-hq] at zU;clear hq;obtain⟨l,-,-,-,b3,-⟩:=O.out.box.facts;rw[<-HQ.out] at b3;have A9:=ae ((q9 r).alloc ly (.cells #[.string nm] 9));have S9:=ae (O.out.below A9.out ly);have RO:=ae (by have h:=S9.out.ror;rw[<-HQ.out] at h;exact h);have zN:w0.heap.size<=(r.alloc (.cells #[.string nm] 9)).heap.size:=S9.out.lt;have HG:Hid (∀ k:World,(r.alloc (.cells #[.string nm] 9)).grownBy k (Value.slice ao q co).ownBlock->k.heap[hb]?=(r.alloc (.cells #[.string nm] 9)).heap[hb]?/\k.heap[w.heap.size]?=(r.alloc (.cells #[.string nm] 9)).heap[w.heap.size]?/\k.heap[g]?=(r.alloc (.cells #[.string nm] 9)).heap[g]?):=fun k hg=>by
  have la:∀ (i:Nat) (cs:Array Value) (t:TypeId) (fz:Nat × Nat),(r.alloc (.cells #[.string nm] 9)).heap[i]?=some (Obj.cells cs t fz)->t≠9->k.heap[i]?=(r.alloc (.cells #[.string nm] 9)).heap[i]?:=fun i cs t fz hi ht=>hg.block i (af hi) fun e=>by obtain⟨_,_,Al,hc⟩:=ah RO.out i e.symm;exact ht (ai hi hc)
  exact⟨la _ _ _ _ S9.out.box (by decide),la _ _ _ _ ((A9.out.block _ (af E.out)).trans E.out) (by decide),la _ _ _ _ ((A9.out.block _ (af D.out)).trans D.out) (by decide)⟩
 have ur:Hid ((r.alloc (.cells #[.string nm] 9)).heap[w.heap.size]?=some (.cells #[.int .i64 0,.string ⟨#[]⟩,.slice none 0 0] 41 (0,0))):=(A9.out.block _ (af E.out)).trans E.out;have Am:Hid ((r.alloc (.cells #[.string nm] 9)).heap[g]?=some (.cells #[.int .i64 0,.string tx,.slice none 0 0] 41 (0,0))):=(A9.out.block _ (af D.out)).trans D.out;have hbw:¬ hb=w.heap.size:=fun e=>by have h:=O.out.box;unfold ShBox at h;rw[e] at h;exact absurd (ai h E.out) (by decide)
 have zM:¬ w.heap.size=hb:=fun e=>hbw e.symm;have zS:¬ hb=g:=fun e=>by have h:=O.out.box;unfold ShBox at h;rw[e] at h;exact absurd (ai h D.out) (by decide)
 have hbr':¬ g=hb:=fun e=>zS e.symm
 go_wp2_with (first
  | (at_builtin;refine aN _ rfl (.tmp 100) (.tmp 102) 39 rfl w0.heap.size 9 i1 (.string ⟨#[]⟩) 1 16 Tryz.underlying39 zQ Ai zY Ap rfl (by decide) (.slice ao q co) q (bR (made.map (·.name))) (by simp[Act.eval]) RO.out ⟨r.heap.size,0,none⟩ 1 1 [.string nm] (by simp[Act.eval]) rfl (jA r _ _) (by simp[Value.oneCell']) (by unfold maxLen;omega) (by omega) zN ?_;intro v9 w9 p f T;have O9:=ae p;have G9:=ae f;have Ae:=ae T;have Y:=ae (HG.out w9 f);obtain⟨g9,c9,cu9,rfl,An⟩:=p.2.resolve_left (fun h=>by omega);clear An p f T;obtain⟨hbl9,-,-,-,f3,-,-,-,-,-,ff⟩:=(ShBox.blk S9.out.box Y.out.1).facts;have ff3:=ff 3;obtain⟨rl,r0,r1,r2,rf⟩:=aI (Y.out.2.1.trans ur.out);have rf0:=rf 0;have rf1:=rf 1;have rf2:=rf 2;obtain⟨pl,p0,p1,p2,pf⟩:=aI (Y.out.2.2.trans Am.out);clear ff rf pf)
  | fail)
 have zH:=ae (S9.out.ord (x:=⟨nm,1,0,tx,0,[]⟩) (w':=w9) (v:=.slice (some ⟨g9,0,none⟩) (q+1) c9) (by rw[<-HQ.out];exact G9.out) (by rw[<-HQ.out];exact O9.out) (by rw[<-HQ.out];exact Ae.out));refine bp (v:=.agg #[.int .i64 0,.string tx,.slice none 0 0]) (by simp[results,Tryz.results155,go_sem,r0,r1,r2]) rfl ?_;have qr:=(qh w9 ⟨hb,3,none⟩ (.slice (some ⟨g9,0,none⟩) (q+1) c9) w.heap.size zM).trans (Y.out.2.1.trans ur.out);refine⟨.slice (some ⟨c,0,none⟩) (n+1) z,.slice (some ⟨g9,0,none⟩) (q+1) c9,rfl,?_,?_⟩
 ·rw[<-M.out]
  have x0:=zH.out.1;rw[List.set_set] at x0;replace x0:=x0.setOff qr ⟨by decide,by decide,by decide,by decide⟩ A 0 (.int .i64 0);have y0:=av qr (j:=0) (.int .i64 0);have x1:=x0.setOff y0 ⟨by decide,by decide,by decide,by decide⟩ A 1 (.string tx);exact x1.setOff (av y0 (j:=1) (.string tx)) ⟨by decide,by decide,by decide,by decide⟩ A 2 (.slice none 0 0)
 ·have k0:=(K8.out.to (KS.of_below (X:=XN) A9.out ly O.out.lt)).to zH.out.2
  exact((k0.fresh ly A 0 _).fresh ly A 1 _).fresh ly A 2 _
end
section
variable {w0:World}{S:Spc}{a0 a1:Option Addr}{c0 c1 hb:Nat}{md or st:Value}{making:List ByteArray}{made:List Ent}{L:List SM}
theorem uZ (C:ju w0 S a0 a1)(w:World)(nm:ByteArray)(h:SI w0 hb (.slice a0 S.n0 c0) (.slice a1 S.n1 c1) w making made L md or st)(zF:L.length<=100000)(P:making.length=60)(h1:fI L nm=none)(hi:atL making nm=none)(tg:Nat)(h3:atI (nm1 S.f1) S.n1 nm=some tg):Calls Tryz.prog 155 #[.pointer (some ⟨hb,0,none⟩),.string nm] w fun e w'=>gX w0 hb (.slice a0 S.n0 c0) (.slice a1 S.n1 c1) making L w e w' (.inr (.inr nm)):=by
 obtain⟨im,n9,mv,zE,zD⟩:=ey jv;obtain⟨i1,hi1,hy0,hy1,hy2⟩:=ey fQ;have T:=ae ((q9 w).alloc ly (.cells #[.int .i64 0,.string ⟨#[]⟩,.slice none 0 0] 41));have kr:Hid ((w.alloc (.cells #[.int .i64 0,.string ⟨#[]⟩,.slice none 0 0] 41)).heap[w.heap.size]?=some (.cells #[.int .i64 0,.string ⟨#[]⟩,.slice none 0 0] 41 (0,0))):=heap_alloc_new _ _;have o:=ae (h.below T.out ly);have x:w0.heap.size<=w.heap.size:=h.lt;have e1:cZ (fI L nm)=-1:=by rw[h1];rfl
 obtain⟨am,cm,rfl⟩:=dQ h.rmd;obtain⟨n,hn⟩:∃ n,n=L.length:=⟨_,rfl⟩
 have G:=ae hn;have CC:=ae C;have hsm:=C.ok.small;have hn1:n<=100000:=by omega
 clear h h1 hn C;obtain⟨es0,es⟩:∃ z,cZ (atI (nm0 S.f0) S.n0 nm)=z:=⟨_,rfl⟩
 have et:cZ (atI (nm1 S.f1) S.n1 nm)=(tg:Int):=by rw[h3];rfl
 have M:∀ (j:Nat) (y:ByteArray),making[j]?=some y->(y.toList == nm.toList)=false:=fun j y O=>by unfold atL at hi;rw[List.findIdx?_eq_none_iff] at hi;exact hi y (List.mem_of_getElem? O)
 have qr:=ae M;obtain⟨l,J⟩:∃ l,l=making.length:=⟨_,rfl⟩
 have s:=ae J;have hT0:(0:Int)<=(tg:Int):=by omega
 have hT1:=(b9 h3).1;rw[<-J] at P;obtain⟨ast,cst,rfl⟩:=dQ o.out.rst;clear h3 hi M J;have V:l=60:=by omega
 clear P;go_enter Tryz.func155,Tryz.ntmps155;go_wp2_with fail;generalize w.alloc (.cells #[.int .i64 0,.string ⟨#[]⟩,.slice none 0 0] 41)=b at T kr o ⊢;refine(fP b nm o.out zF).mono ?_;rintro e w1 ⟨rfl,bt⟩;rw[bt,e1];clear bt e1;obtain⟨c,-,-,b2,-⟩:=o.out.box.facts;rw[<-G.out] at b2;have W:=ae ((q9 b).alloc ly (.cells #[.string nm,.int .i64 0,.string ⟨#[]⟩,.slice none 0 0,.slice none 0 0,.bool false] 236));have B:=ae (o.out.below W.out ly);have RM:=ae (by have h:=B.out.rmd;rw[<-G.out] at h;exact h);have zG:(b.alloc (.cells #[.string nm,.int .i64 0,.string ⟨#[]⟩,.slice none 0 0,.slice none 0 0,.bool false] 236)).heap.size=b.heap.size+1:=by simp
 have HG:Hid (∀ d:World,(b.alloc (.cells #[.string nm,.int .i64 0,.string ⟨#[]⟩,.slice none 0 0,.slice none 0 0,.bool false] 236)).grownBy d (Value.slice am n cm).ownBlock->d.heap[hb]?=(b.alloc (.cells #[.string nm,.int .i64 0,.string ⟨#[]⟩,.slice none 0 0,.slice none 0 0,.bool false] 236)).heap[hb]?):=fun d hg=>hg.block hb (by omega) fun e=>by obtain⟨_,_,N,g⟩:=ah RM.out hb e.symm;exact absurd (ai B.out.box g) (by decide)
 have ld:w0.heap.size<=(b.alloc (.cells #[.string nm,.int .i64 0,.string ⟨#[]⟩,.slice none 0 0,.slice none 0 0,.bool false] 236)).heap.size:=B.out.lt;have hz1':b.heap.size<(b.alloc (.cells #[.string nm,.int .i64 0,.string ⟨#[]⟩,.slice none 0 0,.slice none 0 0,.bool false] 236)).heap.size:=by omega
 clear zG
 go_upto_region 7 with (first
  | (at_builtin;refine aN _ rfl (.tmp 46) (.tmp 49) 123 rfl w0.heap.size 236 im (.agg #[.string ⟨#[]⟩,.int .i64 0,.string ⟨#[]⟩,.slice none 0 0,.slice none 0 0,.bool false]) 6 96 Tryz.underlying123 n9 mv zE zD rfl (by decide) (.slice am n cm) n (L.flatMap smV) (by simp[Act.eval]) RM.out ⟨b.heap.size,0,none⟩ 1 1 [.string nm,.int .i64 0,.string ⟨#[]⟩,.slice none 0 0,.slice none 0 0,.bool false] (by simp[Act.eval]) rfl (jz b _ _ _ _ _ _ _) (by simp[Value.oneCell']) (by unfold maxLen;omega) (by omega) ld ?_;intro v2 d p f th;have O2:=ae p;have G2:=ae f;have aq:=ae (HG.out d f);obtain⟨R,r,cu2,rfl,ro⟩:=p.2.resolve_left (fun h=>by omega);clear ro p f th;obtain⟨la,-,-,f2,-,-,-,-,-,-,ff⟩:=(ShBox.blk B.out.box aq.out).facts;have ur:=ff 2;clear ff)
  | fail)
 have U:=ae (B.out.addL (m:=dd nm) (w':=d) (v:=.slice (some ⟨R,0,none⟩) (n+1) r) (by rw[<-G.out];exact G2.out) (by rw[<-G.out];exact O2.out) rfl);have E:=ae U.out.1;have K3:Hid (KS w0.heap.size XN w (d.setCell ⟨hb,2,none⟩ (.slice (some ⟨R,0,none⟩) (n+1) r))):=((KS.of_below (X:=XN) T.out ly x).to (KS.of_below W.out ly o.out.lt)).to U.out.2;have u:Hid ((d.setCell ⟨hb,2,none⟩ (.slice (some ⟨R,0,none⟩) (n+1) r)).heap[w.heap.size]?=some (.cells #[.int .i64 0,.string ⟨#[]⟩,.slice none 0 0] 41 (0,0))):=by have h0:=(W.out.block _ (af kr.out)).trans kr.out;exact(U.out.2.blk _ _ _ _ h0 (by decide) (by decide) (by decide) fun h=>h).trans h0
 have hL1:(L++[dd nm]).length=n+1:=by rw[List.length_append,List.length_singleton,<-G.out]
 have hLk:Hid ((L++[dd nm])[n]?=some (dd nm)):=by rw[G.out];show _=_;rw[List.getElem?_append_right ly,Nat.sub_self];rfl
 clear U f2 ur la b2 c RM B W HG O2 G2 aq;generalize d.setCell ⟨hb,2,none⟩ (.slice (some ⟨R,0,none⟩) (n+1) r)=W3 at E K3 u ⊢;obtain⟨c,b0,b1,-⟩:=E.out.box.facts;go_wp2_with fail;refine(dG a0 S.n0 c0 a1 S.n1 c1 S.f0 nm W3 (by omega) (CC.out.src.below E.out.bel ly)).mono ?_;rintro e w4 ⟨K,k⟩;rw[es] at K;subst K;have H:=ae (E.out.below k ly);have I:Hid (w4.heap[w.heap.size]?=_):=(k.block _ (af u.out)).trans u.out;have K4:=ae (K3.out.to (KS.of_below (X:=XN) k ly E.out.lt));clear k b0 b1 c E K3 u;obtain⟨c,b0,b1,-⟩:=H.out.box.facts;go_wp2_with fail;refine(dP a0 S.n0 c0 a1 S.n1 c1 S.f1 nm w4 (by omega) (CC.out.tgt.below H.out.bel ly)).mono ?_;rintro e w5 ⟨K,k⟩;rw[et] at K;subst K;have q:=ae (H.out.below k ly);have ex:Hid (w5.heap[w.heap.size]?=some (.cells #[.int .i64 0,.string ⟨#[]⟩,.slice none 0 0] 41 (0,0))):=(k.block _ (af I.out)).trans I.out;have K5:=ae (K4.out.to (KS.of_below (X:=XN) k ly H.out.lt));clear k b0 b1 c H K4 I T o kr;obtain⟨c,-,-,-,-,b4,b5,b6,b7,b8,D⟩:=q.out.box.facts;have bf4:=D 4;have bf5:=D 5;have bf6:=D 6;have bf7:=D 7;have bf8:=D 8;rw[<-s.out] at b4;clear D;go_wp2_with fail;go_loop [9] (fun i=>∃ j:Nat,j<=l/\i=.int .i64 j) (fun i=>l - (intOf i).toNat);case atStart=>exact⟨0,by omega,rfl⟩
 case round =>
 obtain⟨j,hj,rfl⟩:=hrel;by_cases hlt:j<l
 ·obtain⟨y,O⟩:∃ y,making[j]?=some y:=⟨_,gq (by have:=s.out;omega)⟩
  obtain⟨gs,N,cus,ev,-⟩:=q.out.rst.2.resolve_left (fun h=>by have:=s.out;omega);rw[<-s.out] at ev;cases ev
  have dj:w5.cell? ⟨gs,j,none⟩=some (.string y):=lG q.out.rst O;have hjm:(j:Int)<(l:Int):=by omega
  have n8:=ae (qr.out j y O);clear O;have hne:=n8.out;go_wp2;exact⟨⟨j+1,by omega,by go_num⟩,by simp[intOf];omega⟩
 obtain rfl:j=l:=by omega
 ·subst V
  have hbw:¬ hb=w.heap.size:=fun e=>by have h:=q.out.box;unfold ShBox at h;rw[e] at h;exact absurd (ai h ex.out) (by decide)
  have hbw':¬ w.heap.size=hb:=fun e=>hbw e.symm;obtain⟨rl,r0,r1,r2,Q⟩:=aI ex.out;have rf0:=Q 0;have rf1:=Q 1;have rf2:=Q 2;clear Q;go_wp2_with fail;refine bp (v:=.agg #[.int .i64 7,.string nm,.slice none 0 0]) (by simp[results,Tryz.results155,go_sem,r0,r1,r2]) rfl ?_;have Y:=av q.out.box (j:=8) (.bool true);have fd:=av Y (j:=5) (.int .i64 7);have Z:=av fd (j:=6) (.string nm);have sm:=av Z (j:=7) (.slice none 0 0);have A:w0.heap.size<=hb:=q.out.hbB;have k8:=(((K5.out.to (KS.setCell (X:=XN) _ A (.inr fun N t fz g=>.inr (.inr (ai g q.out.box))) (.bool true) (j:=8))).to (KS.setCell (X:=XN) _ A (.inr fun N t fz g=>.inr (.inr (ai g Y))) (.int .i64 7) (j:=5))).to (KS.setCell (X:=XN) _ A (.inr fun N t fz g=>.inr (.inr (ai g fd))) (.string nm) (j:=6))).to (KS.setCell (X:=XN) _ A (.inr fun N t fz g=>.inr (.inr (ai g Z))) (.slice none 0 0) (j:=7));refine⟨rfl,⟨_,_,_,_,_,(qh _ _ _ _ hbw).trans ((qh _ _ _ _ hbw).trans ((qh _ _ _ _ hbw).trans sm)),⟨rfl,.inl ⟨rfl,rfl⟩⟩⟩,?_⟩;exact((k8.fresh ly x 0 _).fresh ly x 1 _).fresh ly x 2 _
end
theorem zu {z:Int}(h0:0<=z)(h1:z<=1048576):IntKind.i64.wrap z=z:=by rw[IntKind.wrap_i64];omega
theorem yV {w w':World}{B n:Nat}{v:Value}{b:List Value}(h:w.ownsRow B 239 3 v n b)(c:KS B XN w w'):w'.ownsRow B 239 3 v n b:=bB h fun k e=>by obtain⟨_,_,cs,d⟩:=ah h k e;exact c.blk _ _ _ _ d (by decide) (by decide) (by decide) fun h=>h
theorem LExt.add (n:Nat)(L:List SM){m:SM}(f:m.done=false):LExt n L (L++[m]):=by
 refine⟨fun i d b=>⟨d,?_,rfl⟩,fun d b c=>?_⟩
 ·rw[List.getElem?_append_left (List.getElem?_eq_some_iff.1 b).1]
  exact b
 ·rcases List.mem_append.1 b with b | b
  ·exact .inl ⟨d,b,c,rfl⟩
  ·rw[List.mem_singleton.1 b,f] at c
   cases c
theorem LExt.set {n k:Nat}{L g:List SM}{m c:SM}(h:LExt n L g)(q:g[k]?=some m)(t:c.name=m.name)(s:∀ j,c.sv.ownBlock=some j->n<=j):LExt n L (g.set k c):=by
 refine⟨fun i l b=>?_,fun l b r=>?_⟩
 ·obtain⟨u,f,p⟩:=h.nam i l b
  by_cases d:k=i
  ·subst d
   rw[q] at f;cases f
   exact⟨c,List.getElem?_set_self (List.getElem?_eq_some_iff.1 q).1,t.trans p⟩
  ·exact⟨u,by rw[List.getElem?_set_ne d];exact f,p⟩
 ·rcases List.mem_or_eq_of_mem_set b with o | rfl
  ·exact h.sn l o r
  ·exact .inr s
section
variable {w0:World}{S:Spc}{a0 a1:Option Addr}{c0 c1 hb:Nat}{md or st:Value}{making:List ByteArray}{made:List Ent}{L:List SM}
theorem xk (C:ju w0 S a0 a1)(n':Nat)(HK:j4 w0 S hb (.slice a0 S.n0 c0) (.slice a1 S.n1 c1) n')(w:World)(nm:ByteArray)(Bt:making.length+(n'+1)=60)(h:SI w0 hb (.slice a0 S.n0 c0) (.slice a1 S.n1 c1) w making made L md or st)(hrel:eB L making made)(hp:PG S making made)(ld:dZ S making made 1)(Bq:MT S making)(I:bs made nm=none)(hi:atL making nm=none)(tg:Nat)(h3:atI (nm1 S.f1) S.n1 nm=some tg):Calls Tryz.prog 155 #[.pointer (some ⟨hb,0,none⟩),.string nm] w fun e w'=>gX w0 hb (.slice a0 S.n0 c0) (.slice a1 S.n1 c1) making L w e w' (jY nm tg (dw S (bv S n' (making++[nm])) tg 201 made [] [])):=by
 obtain⟨h1,la⟩:=uX hrel I hi;have hmade:made.length<=50000:=by unfold dZ at ld;omega
 have CF:L.length<=100000:=by have:=hrel.len;omega
 have BU:making.length<60:=by omega
 have ex:=(b9 h3).1;obtain⟨R,hR⟩:∃ R,R=dw S (bv S n' (making++[nm])) tg 201 made [] []:=⟨_,rfl⟩
 have HR:=ae hR;obtain⟨tb,AR,AV,AM⟩:=C.tgt.resolve_left (by omega);have CP:=ae AV;have zM:=ae AM;have Av:Hid (∀ (W:World) (AF Ao Ax:Value) (a:Option Addr) (cap:Nat),SI w0 hb (.slice a0 S.n0 c0) (.slice a1 S.n1 c1) W (making++[nm]) made (L++[dd nm]) AF Ao Ax->SlIns w0 a (S.f1 tg).actN (S.f1 tg).act->Calls Tryz.prog 197 #[.pointer (some ⟨hb,0,none⟩),.agg #[.slice a (S.f1 tg).actN cap]] W fun e w'=>qg w0 hb (.slice a0 S.n0 c0) (.slice a1 S.n1 c1) (making++[nm]) (L++[dd nm]) W e w' R):=by
  intro W AF Ao Ax a cap hS zU;rw[hR];refine xa C n' HK made _ AF Ao Ax W a cap tg (by rw[List.length_append,List.length_singleton];omega) hS (nZ hrel la rfl rfl) (mR hp I) ?_ ?_ ex zU
  ·have:=fU ex (b9 h3).2 I hi
   unfold dZ at ld ⊢;omega
  ·intro t ht
   rcases List.mem_append.1 ht with ht | ht
   ·exact Bq t ht
   ·rw[List.mem_singleton.1 ht,h3];rfl
 have HI:=ae hi;have H0:=ae I;have Bg:Hid (∀ l x,R=.inl (l,x)->l.length<=100000/\∀ y∈l,y.name≠nm):=by intro l x he;rw[hR] at he;have g1:=nT C.ok ex (jm C.ok n' (making++[nm])) _ _ _ _ _ _ (mR hp I) (pL S made) rfl he;have g2:=nS (fun made Cv AN e=>jl S n' (making++[nm]) made Cv AN e) _ _ _ _ _ _ he;have g3:=fU ex (b9 h3).2 I hi;refine⟨?_,(mS g1.1).2⟩;unfold fk at g2;unfold dZ at ld;omega
 have Bl:=ae la;have HREL:=ae hrel;rw[<-hR];clear HK hp ld Bq I AM AV hR la hrel;obtain⟨im,Cx,CL,sm,Az⟩:=ey jv;obtain⟨i1,Bf,A8,Bh,Bd⟩:=ey fQ;have A0:=ae ((q9 w).alloc ly (.cells #[.int .i64 0,.string ⟨#[]⟩,.slice none 0 0] 41));have kr:Hid ((w.alloc (.cells #[.int .i64 0,.string ⟨#[]⟩,.slice none 0 0] 41)).heap[w.heap.size]?=some (.cells #[.int .i64 0,.string ⟨#[]⟩,.slice none 0 0] 41 (0,0))):=heap_alloc_new _ _;have S0:=ae (h.below A0.out ly);have s:w0.heap.size<=w.heap.size:=h.lt;have e1:cZ (fI L nm)=-1:=by rw[h1];rfl
 obtain⟨am,cm,rfl⟩:=dQ h.rmd;obtain⟨n,hn⟩:∃ n,n=L.length:=⟨_,rfl⟩
 have HN:=ae hn;have CC:=ae C;have hsm:=C.ok.small;have hn1:n<=100000:=by omega
 clear h h1 hn C;obtain⟨es0,es⟩:∃ z,cZ (atI (nm0 S.f0) S.n0 nm)=z:=⟨_,rfl⟩
 clear ex;have et:cZ (atI (nm1 S.f1) S.n1 nm)=(tg:Int):=by rw[h3];rfl
 have AA:∀ (j:Nat) (y:ByteArray),making[j]?=some y->(y.toList == nm.toList)=false:=fun j y hy=>by unfold atL at hi;rw[List.findIdx?_eq_none_iff] at hi;exact hi y (List.mem_of_getElem? hy)
 have Cy:=ae AA;obtain⟨ms,Af⟩:∃ ms,ms=making.length:=⟨_,rfl⟩
 have T:=ae Af;have hT0:(0:Int)<=(tg:Int):=by omega
 have ex:=(b9 h3).1;rw[<-Af] at BU;obtain⟨AX,Bj,rfl⟩:=dQ S0.out.rst;clear h3 hi AA Af;clear Bt;go_enter Tryz.func155,Tryz.ntmps155;go_wp2_with fail;generalize w.alloc (.cells #[.int .i64 0,.string ⟨#[]⟩,.slice none 0 0] 41)=W0 at A0 kr S0 ⊢;refine(fP W0 nm S0.out CF).mono ?_;rintro e w1 ⟨rfl,Br⟩;rw[Br,e1];clear Br e1;obtain⟨E,-,-,b2,-⟩:=S0.out.box.facts;rw[<-HN.out] at b2;have A1:=ae ((q9 W0).alloc ly (.cells #[.string nm,.int .i64 0,.string ⟨#[]⟩,.slice none 0 0,.slice none 0 0,.bool false] 236));have SA:=ae (S0.out.below A1.out ly);have RM:=ae (by have h:=SA.out.rmd;rw[<-HN.out] at h;exact h);have Cg:(W0.alloc (.cells #[.string nm,.int .i64 0,.string ⟨#[]⟩,.slice none 0 0,.slice none 0 0,.bool false] 236)).heap.size=W0.heap.size+1:=by simp
 have HG:Hid (∀ G:World,(W0.alloc (.cells #[.string nm,.int .i64 0,.string ⟨#[]⟩,.slice none 0 0,.slice none 0 0,.bool false] 236)).grownBy G (Value.slice am n cm).ownBlock->G.heap[hb]?=(W0.alloc (.cells #[.string nm,.int .i64 0,.string ⟨#[]⟩,.slice none 0 0,.slice none 0 0,.bool false] 236)).heap[hb]?):=fun G hg=>hg.block hb (by omega) fun e=>by obtain⟨_,_,cs,hc⟩:=ah RM.out hb e.symm;exact absurd (ai SA.out.box hc) (by decide)
 have BJ:w0.heap.size<=(W0.alloc (.cells #[.string nm,.int .i64 0,.string ⟨#[]⟩,.slice none 0 0,.slice none 0 0,.bool false] 236)).heap.size:=SA.out.lt;have hz1':W0.heap.size<(W0.alloc (.cells #[.string nm,.int .i64 0,.string ⟨#[]⟩,.slice none 0 0,.slice none 0 0,.bool false] 236)).heap.size:=by omega
 clear Cg
 go_upto_region 7 with (first
  | (at_builtin;refine aN _ rfl (.tmp 46) (.tmp 49) 123 rfl w0.heap.size 236 im (.agg #[.string ⟨#[]⟩,.int .i64 0,.string ⟨#[]⟩,.slice none 0 0,.slice none 0 0,.bool false]) 6 96 Tryz.underlying123 Cx CL sm Az rfl (by decide) (.slice am n cm) n (L.flatMap smV) (by simp[Act.eval]) RM.out ⟨W0.heap.size,0,none⟩ 1 1 [.string nm,.int .i64 0,.string ⟨#[]⟩,.slice none 0 0,.slice none 0 0,.bool false] (by simp[Act.eval]) rfl (jz W0 _ _ _ _ _ _ _) (by simp[Value.oneCell']) (by unfold maxLen;omega) (by omega) BJ ?_;intro v2 G D r n9;have O2:=ae D;have G2:=ae r;have Bc:=ae (HG.out G r);obtain⟨g2,zZ,cu2,rfl,CN⟩:=D.2.resolve_left (fun h=>by omega);clear CN D r n9;obtain⟨BR,-,-,f2,-,-,-,-,-,-,ff⟩:=(ShBox.blk SA.out.box Bc.out).facts;have Cp:=ff 2;clear ff)
  | fail)
 have SX:=ae (SA.out.addL (m:=dd nm) (w':=G) (v:=.slice (some ⟨g2,0,none⟩) (n+1) zZ) (by rw[<-HN.out];exact G2.out) (by rw[<-HN.out];exact O2.out) rfl);have S3:=ae SX.out.1;have K3:Hid (KS w0.heap.size XN w (G.setCell ⟨hb,2,none⟩ (.slice (some ⟨g2,0,none⟩) (n+1) zZ))):=((KS.of_below (X:=XN) A0.out ly s).to (KS.of_below A1.out ly S0.out.lt)).to SX.out.2;have zV:Hid ((G.setCell ⟨hb,2,none⟩ (.slice (some ⟨g2,0,none⟩) (n+1) zZ)).heap[w.heap.size]?=some (.cells #[.int .i64 0,.string ⟨#[]⟩,.slice none 0 0] 41 (0,0))):=by have I:=(A1.out.block _ (af kr.out)).trans kr.out;exact(SX.out.2.blk _ _ _ _ I (by decide) (by decide) (by decide) fun h=>h).trans I
 have ur:(L++[dd nm]).length=n+1:=by rw[List.length_append,List.length_singleton,<-HN.out]
 have fd:Hid ((L++[dd nm])[n]?=some (dd nm)):=by rw[HN.out];show _=_;rw[List.getElem?_append_right ly,Nat.sub_self];rfl
 clear SX f2 Cp BR b2 E RM SA A1 HG O2 G2 Bc;generalize G.setCell ⟨hb,2,none⟩ (.slice (some ⟨g2,0,none⟩) (n+1) zZ)=W3 at S3 K3 zV ⊢;obtain⟨E,b0,b1,-⟩:=S3.out.box.facts;go_wp2_with fail;refine(dG a0 S.n0 c0 a1 S.n1 c1 S.f0 nm W3 (by omega) (CC.out.src.below S3.out.bel ly)).mono ?_;rintro e w4 ⟨he,hB⟩;rw[es] at he;subst he;have S4:=ae (S3.out.below hB ly);have Ad:Hid (w4.heap[w.heap.size]?=_):=(hB.block _ (af zV.out)).trans zV.out;have K4:=ae (K3.out.to (KS.of_below (X:=XN) hB ly S3.out.lt));clear hB b0 b1 E S3 K3 zV;obtain⟨E,b0,b1,-⟩:=S4.out.box.facts;go_wp2_with fail;refine(dP a0 S.n0 c0 a1 S.n1 c1 S.f1 nm w4 (by omega) (CC.out.tgt.below S4.out.bel ly)).mono ?_;rintro e w5 ⟨he,hB⟩;rw[et] at he;subst he;have S5:=ae (S4.out.below hB ly);have Ar:Hid (w5.heap[w.heap.size]?=some (.cells #[.int .i64 0,.string ⟨#[]⟩,.slice none 0 0] 41 (0,0))):=(hB.block _ (af Ad.out)).trans Ad.out;have K5:=ae (K4.out.to (KS.of_below (X:=XN) hB ly S4.out.lt));clear hB b0 b1 E S4 K4 Ad A0 S0 kr;obtain⟨E,-,-,-,-,b4,b5,b6,b7,b8,bf⟩:=S5.out.box.facts;have Ae:=bf 4;have Ce:=bf 5;have CB:=bf 6;have Cn:=bf 7;have Cb:=bf 8;rw[<-T.out] at b4;clear bf;go_wp2_with fail;go_loop [9] (fun i=>∃ j:Nat,j<=ms/\i=.int .i64 j) (fun i=>ms - (intOf i).toNat);case atStart=>exact⟨0,by omega,rfl⟩
 case round =>
 obtain⟨j,hj,rfl⟩:=hrel;by_cases hlt:j<ms
 ·obtain⟨y,hy⟩:∃ y,making[j]?=some y:=⟨_,gq (by have:=T.out;omega)⟩
  obtain⟨gs,cs,cus,ev,-⟩:=S5.out.rst.2.resolve_left (fun h=>by have:=T.out;omega);rw[<-T.out] at ev;cases ev
  have dj:w5.cell? ⟨gs,j,none⟩=some (.string y):=lG S5.out.rst hy;have hjm:(j:Int)<(ms:Int):=by omega
  have Bl:=ae (Cy.out j y hy);clear hy;have la:=Bl.out;go_wp2;exact⟨⟨j+1,by omega,by go_num⟩,by simp[intOf];omega⟩
 obtain rfl:j=ms:=by omega
 ·have hI60:¬ (60:Int)<=(j:Int):=by omega
  clear b5 b6 b7 b8 Ce CB Cn Cb;have A6:=ae ((q9 w5).alloc ly (.cells #[.string nm] 9));have Q:=ae (S5.out.below A6.out ly);have RS:=ae (by have h:=Q.out.rst;rw[<-T.out] at h;exact h);have AK:w0.heap.size<=(w5.alloc (.cells #[.string nm] 9)).heap.size:=Q.out.lt;obtain⟨q0,aa,ca,q1,-⟩:=(zM.out.below Q.out.bel ly).2 tg ex;obtain⟨-,aa',ca',Bk,zU⟩:=zM.out.2 tg ex;have zP:=zM.out.1;have e1:=(Q.out.bel.cell (p:=⟨tb,AR+tg*2+1,none⟩) zP).trans Bk;rw[q1] at e1;simp only[Option.some.injEq,Value.slice.injEq,true_and] at e1;obtain⟨rfl,rfl⟩:=e1;have Cm:=ae zU;have Q1:=ae q1;clear q0 q1 Bk zU;have Ah:Hid ((w5.alloc (.cells #[.string nm] 9)).heap[w.heap.size]?=some (.cells #[.int .i64 0,.string ⟨#[]⟩,.slice none 0 0] 41 (0,0))):=(A6.out.block _ (af Ar.out)).trans Ar.out;have HG:Hid (∀ G:World,(w5.alloc (.cells #[.string nm] 9)).grownBy G (Value.slice AX j Bj).ownBlock->G.heap[hb]?=(w5.alloc (.cells #[.string nm] 9)).heap[hb]?/\G.heap[tb]?=(w5.alloc (.cells #[.string nm] 9)).heap[tb]?):=fun G hg=>by
   refine⟨hg.block hb (af Q.out.box) fun e=>?_,hg.block tb (lj zP AK) fun e=>?_⟩
   ·obtain⟨_,_,zT,hc⟩:=ah RS.out hb e.symm
    exact absurd (ai Q.out.box hc) (by decide)
   ·have:=(ah RS.out tb e.symm).1
    omega
  have Cu:w0.heap.size<=hb:=S5.out.hbB;have htbh:¬ tb=hb:=by omega
  have htbh':¬ hb=tb:=by omega
  have htI:(tg:Int)<(S.n1:Int):=by omega
  go_wp2_with (first
   | (at_builtin;refine aN _ rfl (.tmp 166) (.tmp 168) 39 rfl w0.heap.size 9 i1 (.string ⟨#[]⟩) 1 16 Tryz.underlying39 Bf A8 Bh Bd rfl (by decide) (.slice AX j Bj) j (bR making) (by simp[Act.eval]) RS.out ⟨w5.heap.size,0,none⟩ 1 1 [.string nm] (by simp[Act.eval]) rfl (jA w5 _ _) (by simp[Value.oneCell']) (by unfold maxLen;omega) (by omega) AK ?_;intro v7 w7 D r n9;have O7:=ae D;have G7:=ae r;have AY:=ae n9;have Ak:=ae (HG.out w7 r);obtain⟨g7,c7,cu7,rfl,Cc⟩:=D.2.resolve_left (fun h=>by omega);clear Cc D r n9;obtain⟨Ap,-,f1,-,-,f4,-,-,-,-,ff⟩:=(ShBox.blk Q.out.box Ak.out.1).facts;have Cj:=ff 4;rw[CP.out] at f1;have f9:=(cq (a:=⟨tb,AR+tg*2+1,none⟩) Ak.out.2).trans Q1.out;have Cq:tb<w7.heap.size:=(lj (lj zP Cu) (Nat.le_of_lt Ap));clear ff)
   | fail)
  have SP:=ae (Q.out.push (nm:=nm) (w':=w7) (v:=.slice (some ⟨g7,0,none⟩) (j+1) c7) (by rw[<-T.out];exact G7.out) (by rw[<-T.out];exact O7.out) (by rw[<-T.out];exact AY.out));have S7:=ae SP.out.1;have K7:Hid (KS w0.heap.size XN w (w7.setCell ⟨hb,4,none⟩ (.slice (some ⟨g7,0,none⟩) (j+1) c7))):=(K5.out.to (KS.of_below (X:=XN) A6.out ly S5.out.lt)).to SP.out.2;have H:Hid ((w7.setCell ⟨hb,4,none⟩ (.slice (some ⟨g7,0,none⟩) (j+1) c7)).heap[w.heap.size]?=some (.cells #[.int .i64 0,.string ⟨#[]⟩,.slice none 0 0] 41 (0,0))):=(SP.out.2.blk _ _ _ _ Ah.out (by decide) (by decide) (by decide) fun h=>h).trans Ah.out;clear SP f1 f4 f9 Cj Ap Cq O7 G7 AY Ak HG RS Q A6 Ah Q1 S5 K5 Ar b4 Ae E;generalize w7.setCell ⟨hb,4,none⟩ (.slice (some ⟨g7,0,none⟩) (j+1) c7)=W7 at S7 K7 H ⊢;refine(Av.out W7 _ _ _ aa ca S7.out Cm.out).mono ?_;clear Av;rintro e U zF;rcases R with ⟨l,x⟩ | c | d
  ·obtain⟨L1,md1,CS,st1,gx,cx,rfl,zI,mv,zX,Bv,AG,J⟩:=zF
   obtain⟨Bu,Aq⟩:=Bg.out l x rfl;clear Bg;obtain⟨g,Ai⟩:∃ g,g=x.1.code:=⟨_,rfl⟩
   obtain⟨f,AE⟩:∃ f,f=x.1.text:=⟨_,rfl⟩
   obtain⟨ls,Aa⟩:∃ ls,ls=x.2:=⟨_,rfl⟩
   obtain⟨ln,Ab⟩:∃ ln,ln=ls.length:=⟨_,rfl⟩
   have Aw:jY nm tg (.inl (l,x))=.inl ((l++[⟨nm,3,g,f,tg,ls⟩]),⟨nm,3,g,f,tg,ls⟩):=by rw[Ai,AE,Aa];rfl
   have BH:=ae Aw;rw[<-Aa,<-Ab] at zX;rw[<-Ai,<-AE,<-Aa,<-Ab];clear Aw Ai AE Aa;have BK:=ae Ab;clear Ab;obtain⟨m1,sm,qr⟩:=AG.nam n (dd nm) fd.out;replace qr:m1.name=nm:=qr;have CQ:Hid (m1.done=false):=by
    obtain⟨m2,Az,e2,e3⟩:=mv.mkg nm (List.mem_append_right _ (List.mem_singleton.2 rfl));obtain⟨i2,Au⟩:=List.getElem?_of_mem Az;have e4:=sj mv.nod Au sm (e2.trans qr.symm);rw[e4,sm] at Au;cases Au
    exact e3
   have fd:=ae sm;obtain⟨N,hN⟩:∃ N,N=L1.length:=⟨_,rfl⟩
   have ur:L1.length=N:=hN.symm;have hnN:n<N:=by rw[hN];exact(List.getElem?_eq_some_iff.1 sm).1
   obtain⟨b,zL,cum,rfl,-⟩:=zI.rmd.2.resolve_left (fun h=>by omega);obtain⟨gp,B,cup,rfl,AU⟩:=zI.rst.2.resolve_left (fun h=>by rw[List.length_append,List.length_singleton] at h;omega);have hcp:j+1<=B:=by have:=AU.2.2.1;rw[List.length_append,List.length_singleton,<-T.out] at this;exact this
   rw[ur,List.length_append,List.length_singleton,<-T.out] at zI;have KW:=ae (K7.out.to J);have o:Hid (U.heap[w.heap.size]?=some (.cells #[.int .i64 0,.string ⟨#[]⟩,.slice none 0 0] 41 (0,0))):=(J.blk _ _ _ _ H.out (by decide) (by decide) (by decide) fun h=>h).trans H.out;have AH:w.heap.size<=W7.heap.size:=K7.out.below.size;have X8:=ae (((LExt.add w.heap.size L (m:=dd nm) rfl).trans AG AH));have CJ:Hid (w.heap.size<=gx):=Nat.le_trans AH (ah zX gx rfl).1;have CR:=ae (aB zX (Nat.le_trans s AH));have BP:=ae mv;have hw8:w.heap.size<=U.heap.size:=KW.out.below.size;have Ag:=ae zI;have Al:=ae qr;have Bw:=ae Aq;clear zI mv zX Bv AG J qr sm Aq AU S7 K7 H hN;have A:=ae ((q9 U).alloc ly (.cells #[.int .i64 g,.string f,.slice none 0 0] 41));have kb:Hid ((U.alloc (.cells #[.int .i64 g,.string f,.slice none 0 0] 41)).heap[U.heap.size]?=some (.cells #[.int .i64 g,.string f,.slice none 0 0] 41 (0,0))):=heap_alloc_new _ _;have zW:=ae (Ag.out.below A.out ly);have K9:=ae (KS.of_below (X:=XN) A.out ly Ag.out.lt);have zQ:Hid ((U.alloc (.cells #[.int .i64 g,.string f,.slice none 0 0] 41)).heap[w.heap.size]?=some (.cells #[.int .i64 0,.string ⟨#[]⟩,.slice none 0 0] 41 (0,0))):=(A.out.block _ (af o.out)).trans o.out;go_upto_region 30 with fail;generalize U.alloc (.cells #[.int .i64 g,.string f,.slice none 0 0] 41)=P at A kb zW K9 zQ ⊢;obtain⟨O,Bn⟩:∃ O,O=U.heap.size:=⟨_,rfl⟩
   rw[<-Bn] at kb ⊢;have hrbw:w.heap.size<=O:=by omega
   clear Bn A Ag o;obtain⟨E,-,-,-,-,b4,-,-,-,b8,bf⟩:=zW.out.box.facts;have Ae:=bf 4;clear bf;go_upto_region 32 with fail;have Cw:IntKind.i64.wrap (j:Int)=(j:Int):=zu (by omega) (by omega);have CO:(0:Int)<=(j:Int):=by omega
   have CD:(j:Int)<=(B:Int):=by omega
   refine aJ (fun V=>V.cell? ⟨hb,4,none⟩=some (.slice (some ⟨gp,0,none⟩) (j+1) B)) 14 (by as_aux_lemma=>kernel_rfl) ?_;have HS:Hid (P.drew.cell? ⟨hb,4,none⟩=some (.slice (some ⟨gp,0,none⟩) (j+1) B)):=b4
   iterate 10
    refine aM 0 (v:=?_) rfl rfl (by as_aux_lemma=>kernel_rfl) (fun _ _ _ h=>h) rfl ?_ HS.out ?_;rotate_left
    ·(intro wz s0;go_simp)
     (try with_reducible rfl)
    (try simp only[Act.put,nzL])
   refine ig (i:=10) (v:=.int .i64 (j:Int)) rfl (by as_aux_lemma=>kernel_rfl) (by as_aux_lemma=>kernel_rfl) (by as_aux_lemma=>kernel_rfl) (by as_aux_lemma=>kernel_rfl) (fun _ _ _ h=>h) rfl ?_ HS.out ?_
   ·intro wz s0
    go_simp
   (try simp only[Act.put,nzL])
   refine ig (i:=11) (v:=.slice (some ⟨gp,0,none⟩) j B) rfl (by as_aux_lemma=>kernel_rfl) (by as_aux_lemma=>kernel_rfl) (by as_aux_lemma=>kernel_rfl) (by as_aux_lemma=>kernel_rfl) (fun _ _ _ h=>h) rfl ?_ HS.out ?_
   ·intro wz s0
    go_simp
   (try simp only[Act.put,nzL])
   iterate 2
    refine cB 12 rfl rfl (by as_aux_lemma=>kernel_rfl) (fun K hK=>?_);go_simp;refine hK.out _ _ (fun _=>HS.out) ?_;clear hK K
    (try simp only[Act.put,nzL])
   have PP:Hid (SI w0 hb (.slice a0 S.n0 c0) (.slice a1 S.n1 c1) (P.setCell ⟨hb,4,none⟩ (.slice (some ⟨gp,0,none⟩) j B)) making l L1 (.slice (some ⟨b,0,none⟩) N zL) CS (.slice (some ⟨gp,0,none⟩) j B)/\KS w0.heap.size XN P (P.setCell ⟨hb,4,none⟩ (.slice (some ⟨gp,0,none⟩) j B))):=by have h:=zW.out;rw[T.out] at h ⊢;exact h.pop
   refine aj (i:=14) rfl (by as_aux_lemma=>kernel_rfl) (fun K hK=>?_);go_simp;refine hK.out _ _ (fun h=>absurd rfl h) ?_;clear hK K HS b4 Ae b8
   (try simp only[Act.put])
   refine aP (by as_aux_lemma=>kernel_rfl) ?_ _;have D6:Hid (Below (P.setCell ⟨hb,4,none⟩ (.slice (some ⟨gp,0,none⟩) j B)).heap.size (P.setCell ⟨hb,4,none⟩ (.slice (some ⟨gp,0,none⟩) j B)) (P.setCell ⟨hb,4,none⟩ (.slice (some ⟨gp,0,none⟩) j B)).drew):=br.drew;have Q:=ae (PP.out.1.below D6.out ly);have K6:=ae ((K9.out.to PP.out.2).to (KS.of_below (X:=XN) D6.out ly PP.out.1.lt));have zY:Hid ((P.setCell ⟨hb,4,none⟩ (.slice (some ⟨gp,0,none⟩) j B)).drew.heap[w.heap.size]?=some (.cells #[.int .i64 0,.string ⟨#[]⟩,.slice none 0 0] 41 (0,0))):=(PP.out.2.blk _ _ _ _ zQ.out (by decide) (by decide) (by decide) fun h=>h).trans zQ.out;have Ay:Hid ((P.setCell ⟨hb,4,none⟩ (.slice (some ⟨gp,0,none⟩) j B)).drew.heap[O]?=some (.cells #[.int .i64 g,.string f,.slice none 0 0] 41 (0,0))):=(PP.out.2.blk _ _ _ _ kb.out (by decide) (by decide) (by decide) fun h=>h).trans kb.out;clear PP D6 zW K9 zQ kb Cw CO CD E;generalize (P.setCell ⟨hb,4,none⟩ (.slice (some ⟨gp,0,none⟩) j B)).drew=Y at Q K6 zY Ay ⊢;have kb:=ae Ay.out;clear Ay;go_upto_region 33 with fail;obtain⟨E,-,-,b2,-⟩:=Q.out.box.facts;obtain⟨rl,r0,r1,r2,-⟩:=aI kb.out;obtain⟨hg2B,hg2l,zT,An⟩:=ah Q.out.rmd b rfl;have Aj:=ae An;have R6:Hid (Y.ownsRow w0.heap.size 236 6 (.slice (some ⟨b,0,none⟩) N zL) N (L1.flatMap smV)):=by have h:=Q.out.rmd;rw[ur] at h;exact h
   have q1:Y.cell? ⟨b,n*6+1,none⟩=some (.int .i64 m1.code):=bC (by rw[ur];exact R6.out) fd.out 1 (by omega) rfl;have q2:Y.cell? ⟨b,n*6+1+1,none⟩=some (.string m1.text):=bC (by rw[ur];exact R6.out) fd.out 2 (by omega) rfl;have q3:Y.cell? ⟨b,n*6+1+2,none⟩=some (.slice none 0 0):=bC (by rw[ur];exact R6.out) fd.out 3 (by omega) rfl;have qf:∀ j,Y.frozen? ⟨b,j,none⟩=false:=fun j=>by simp[World.frozen?,An]
   have Ck:=qf (n*6+1);have CH:=qf (n*6+1+1);have Ci:=qf (n*6+1+2);clear qf An;have hIn:(n:Int)<(N:Int):=by omega
   have zO:b≠hb:=by intro e;have h:=Aj.out;rw[e] at h;exact absurd (ai h Q.out.box) (by decide)
   have M:b≠O:=by intro e;have h:=Aj.out;rw[e] at h;exact absurd (ai h kb.out) (by decide)
   refine wp_region_held_drew (S:=fun V=>V.cell? ⟨hb,2,none⟩=some (.slice (some ⟨b,0,none⟩) N zL)/\V.cell? ⟨O,0,none⟩=some (.int .i64 g)/\V.cell? ⟨O,1,none⟩=some (.string f)/\V.cell? ⟨O,2,none⟩=some (.slice none 0 0)) (by as_aux_lemma=>kernel_rfl) ⟨b2,r0,r1,r2⟩ (fun hS=>?_);have HS:=ae hS;clear hS
   iterate 3
    refine aF 0 (v:=?_) rfl rfl (by as_aux_lemma=>kernel_rfl) (fun _ _ _ h=>h) rfl ?_ HS.out ?_;rotate_left
    ·(intro wz th;obtain⟨s0,s1,s2,s3⟩:=th;go_simp)
     (try with_reducible rfl)
    (try simp only[Act.put,nzL])
   refine aF 4 (v:=?_) rfl rfl (by as_aux_lemma=>kernel_rfl) (fun _ _ _ h=>h) rfl ?_ HS.out ?_;rotate_left
   ·(intro wz th;obtain⟨s0,s1,s2,s3⟩:=th;go_simp)
    (try with_reducible rfl)
   (try simp only[Act.put,nzL])
   refine aF 3 (v:=?_) rfl rfl (by as_aux_lemma=>kernel_rfl) (fun _ _ _ h=>h) rfl ?_ HS.out ?_;rotate_left
   ·(intro wz th;obtain⟨s0,s1,s2,s3⟩:=th;go_simp)
    (try with_reducible rfl)
   (try simp only[Act.put,nzL])
   iterate 3
    refine aF 5 (v:=?_) rfl rfl (by as_aux_lemma=>kernel_rfl) (fun _ _ _ h=>h) rfl ?_ HS.out ?_;rotate_left
    ·(intro wz th;obtain⟨s0,s1,s2,s3⟩:=th;go_simp)
     (try with_reducible rfl)
    (try simp only[Act.put,nzL])
   have TL:=ae (Q.out.told ur fd.out CQ.out g f)
   have AZ:Hid ((((Y.setCell ⟨b,n*6+1,none⟩ (.int .i64 g)).setCell ⟨b,n*6+1+1,none⟩ (.string f)).setCell ⟨b,n*6+1+2,none⟩ (.slice none 0 0)).drew.cell? ⟨hb,2,none⟩=some (.slice (some ⟨b,0,none⟩) N zL)/\(((Y.setCell ⟨b,n*6+1,none⟩ (.int .i64 g)).setCell ⟨b,n*6+1+1,none⟩ (.string f)).setCell ⟨b,n*6+1+2,none⟩ (.slice none 0 0)).drew.cell? ⟨O,0,none⟩=some (.int .i64 g)/\(((Y.setCell ⟨b,n*6+1,none⟩ (.int .i64 g)).setCell ⟨b,n*6+1+1,none⟩ (.string f)).setCell ⟨b,n*6+1+2,none⟩ (.slice none 0 0)).drew.cell? ⟨O,1,none⟩=some (.string f)/\(((Y.setCell ⟨b,n*6+1,none⟩ (.int .i64 g)).setCell ⟨b,n*6+1+1,none⟩ (.string f)).setCell ⟨b,n*6+1+2,none⟩ (.slice none 0 0)).drew.cell? ⟨O,2,none⟩=some (.slice none 0 0)) :=
    ⟨(cell_far _ _ _ _ zO).trans ((cell_far _ _ _ _ zO).trans ((cell_far _ _ _ _ zO).trans b2)),(cell_far _ _ _ _ M).trans ((cell_far _ _ _ _ M).trans ((cell_far _ _ _ _ M).trans r0)),(cell_far _ _ _ _ M).trans ((cell_far _ _ _ _ M).trans ((cell_far _ _ _ _ M).trans r1)),(cell_far _ _ _ _ M).trans ((cell_far _ _ _ _ M).trans ((cell_far _ _ _ _ M).trans r2))⟩
   refine aK (i:=8) rfl (by as_aux_lemma=>kernel_rfl) (fun K hK=>?_);go_simp;refine hK.out _ _ AZ.out ?_;clear hK K HS q1 q2 q3 Ck CH Ci b2 r0 r1 r2 rl
   (try simp only[Act.put])
   refine wpAnyH_done (by as_aux_lemma=>kernel_rfl) ?_ _;have D7:Hid (Below (((Y.setCell ⟨b,n*6+1,none⟩ (.int .i64 g)).setCell ⟨b,n*6+1+1,none⟩ (.string f)).setCell ⟨b,n*6+1+2,none⟩ (.slice none 0 0)).heap.size (((Y.setCell ⟨b,n*6+1,none⟩ (.int .i64 g)).setCell ⟨b,n*6+1+1,none⟩ (.string f)).setCell ⟨b,n*6+1+2,none⟩ (.slice none 0 0)) (((Y.setCell ⟨b,n*6+1,none⟩ (.int .i64 g)).setCell ⟨b,n*6+1+1,none⟩ (.string f)).setCell ⟨b,n*6+1+2,none⟩ (.slice none 0 0)).drew):=br.drew;have S7:=ae (TL.out.1.below D7.out ly);have K7:=ae (K6.out.to (TL.out.2.1.to (KS.of_below (X:=XN) D7.out ly TL.out.1.lt)));have Bo:=TL.out.2.2.1;have Be:=TL.out.2.2.2;have H:Hid ((((Y.setCell ⟨b,n*6+1,none⟩ (.int .i64 g)).setCell ⟨b,n*6+1+1,none⟩ (.string f)).setCell ⟨b,n*6+1+2,none⟩ (.slice none 0 0)).drew.heap[w.heap.size]?=some (.cells #[.int .i64 0,.string ⟨#[]⟩,.slice none 0 0] 41 (0,0))):=by have I:=(TL.out.2.1.blk _ _ _ _ zY.out (by decide) (by decide) (by decide) fun h=>h).trans zY.out;exact I
   have zS:Hid ((((Y.setCell ⟨b,n*6+1,none⟩ (.int .i64 g)).setCell ⟨b,n*6+1+1,none⟩ (.string f)).setCell ⟨b,n*6+1+2,none⟩ (.slice none 0 0)).drew.heap[O]?=some (.cells #[.int .i64 g,.string f,.slice none 0 0] 41 (0,0))):=by have I:=(TL.out.2.1.blk _ _ _ _ kb.out (by decide) (by decide) (by decide) fun h=>h).trans kb.out;exact I
   have AD:=ae Bo;have As:=ae Be;clear TL AZ Bo Be zY kb K6 Q R6 Aj D7;generalize (((Y.setCell ⟨b,n*6+1,none⟩ (.int .i64 g)).setCell ⟨b,n*6+1+1,none⟩ (.string f)).setCell ⟨b,n*6+1+2,none⟩ (.slice none 0 0)).drew=W7 at S7 K7 H zS ⊢;have OS:=ae CR.out;obtain⟨E,-,-,b2,-⟩:=S7.out.box.facts;obtain⟨AP,AO,Cl,zK⟩:=ah S7.out.rmd b rfl;have q4:W7.cell? ⟨b,n*6+4,none⟩=some m1.sv:=bC (by have h:=S7.out.rmd;rw[As.out] at h ⊢;exact h) AD.out 4 (by omega) rfl;have Cf:W7.frozen? ⟨b,n*6+4,none⟩=false:=by simp[World.frozen?,zK]
   have TD:=ae (S7.out.upd' As.out AD.out (j:=4) (by omega) (u:=.slice (some ⟨gx,0,none⟩) ln cx) (m':=⟨m1.name,g,f,ls,.slice (some ⟨gx,0,none⟩) ln cx,false⟩) rfl (fun h=>by cases h));have zG:Hid ((W7.setCell ⟨b,n*6+4,none⟩ (.slice (some ⟨gx,0,none⟩) ln cx)).heap[w.heap.size]?=some (.cells #[.int .i64 0,.string ⟨#[]⟩,.slice none 0 0] 41 (0,0))):=(TD.out.2.1.blk _ _ _ _ H.out (by decide) (by decide) (by decide) fun h=>h).trans H.out;have zH:Hid ((W7.setCell ⟨b,n*6+4,none⟩ (.slice (some ⟨gx,0,none⟩) ln cx)).heap[O]?=some (.cells #[.int .i64 g,.string f,.slice none 0 0] 41 (0,0))):=(TD.out.2.1.blk _ _ _ _ zS.out (by decide) (by decide) (by decide) fun h=>h).trans zS.out;have zD:=ae TD.out.1;have zR:=ae (K7.out.to TD.out.2.1);have Am:=ae TD.out.2.2.1;have AJ:=ae TD.out.2.2.2;clear zK;go_upto_region 35 with fail;clear b2 q4 Cf TD S7 K7 H zS AD As;generalize W7.setCell ⟨b,n*6+4,none⟩ (.slice (some ⟨gx,0,none⟩) ln cx)=zJ at zD zR zG zH ⊢;have BV:=ae (yV OS.out zR.out);obtain⟨E,-,-,b2,-⟩:=zD.out.box.facts;obtain⟨AP,AO,Cl,zK⟩:=ah zD.out.rmd b rfl;have q5:zJ.cell? ⟨b,n*6+5,none⟩=some (.bool false):=bC (by have h:=zD.out.rmd;rw[AJ.out] at h ⊢;exact h) Am.out 5 (by omega) rfl;have Ct:zJ.frozen? ⟨b,n*6+5,none⟩=false:=by simp[World.frozen?,zK]
   have TD:=ae (zD.out.upd' AJ.out Am.out (j:=5) (by omega) (u:=.bool true) (m':=⟨m1.name,g,f,ls,.slice (some ⟨gx,0,none⟩) ln cx,true⟩) rfl (fun _=>(by rw[<-BK.out];exact BV.out)));have o:Hid ((zJ.setCell ⟨b,n*6+5,none⟩ (.bool true)).heap[w.heap.size]?=some (.cells #[.int .i64 0,.string ⟨#[]⟩,.slice none 0 0] 41 (0,0))):=(TD.out.2.1.blk _ _ _ _ zG.out (by decide) (by decide) (by decide) fun h=>h).trans zG.out;have zE:Hid ((zJ.setCell ⟨b,n*6+5,none⟩ (.bool true)).heap[O]?=some (.cells #[.int .i64 g,.string f,.slice none 0 0] 41 (0,0))):=(TD.out.2.1.blk _ _ _ _ zH.out (by decide) (by decide) (by decide) fun h=>h).trans zH.out;have S8:=ae TD.out.1;have K8:=ae (zR.out.to TD.out.2.1);clear zK;go_upto_region 36 with fail;clear b2 q5 Ct TD zD zR zG zH;generalize zJ.setCell ⟨b,n*6+5,none⟩ (.bool true)=W8 at S8 K8 o zE ⊢;obtain⟨ao,co,rfl⟩:=dQ S8.out.ror;obtain⟨q,hq⟩:∃ q,q=l.length:=⟨_,rfl⟩
   have HQ:=ae hq;rw[<-hq] at Bu;clear hq;obtain⟨E,-,-,-,b3,-⟩:=S8.out.box.facts;rw[<-HQ.out] at b3;have A:=ae ((q9 W8).alloc ly (.cells #[.string nm] 9));have S9:=ae (S8.out.below A.out ly);have RO:Hid ((W8.alloc (.cells #[.string nm] 9)).ownsRow w0.heap.size 9 1 (.slice ao q co) q (bR (l.map (·.name)))):=by have h:=S9.out.ror;rw[<-HQ.out] at h;exact h
   have Bz:w0.heap.size<=(W8.alloc (.cells #[.string nm] 9)).heap.size:=S9.out.lt;have HG:Hid (∀ G:World,(W8.alloc (.cells #[.string nm] 9)).grownBy G (Value.slice ao q co).ownBlock->G.heap[hb]?=(W8.alloc (.cells #[.string nm] 9)).heap[hb]?/\G.heap[w.heap.size]?=(W8.alloc (.cells #[.string nm] 9)).heap[w.heap.size]?/\G.heap[O]?=(W8.alloc (.cells #[.string nm] 9)).heap[O]?):=fun G hg=>by
    have la:∀ (i:Nat) (cs:Array Value) (t:TypeId) (fz:Nat × Nat),(W8.alloc (.cells #[.string nm] 9)).heap[i]?=some (Obj.cells cs t fz)->t≠9->G.heap[i]?=(W8.alloc (.cells #[.string nm] 9)).heap[i]?:=fun i cs t fz hi ht=>hg.block i (af hi) fun e=>by obtain⟨_,_,zT,hc⟩:=ah RO.out i e.symm;exact ht (ai hi hc)
    exact⟨la _ _ _ _ S9.out.box (by decide),la _ _ _ _ ((A.out.block _ (af o.out)).trans o.out) (by decide),la _ _ _ _ ((A.out.block _ (af zE.out)).trans zE.out) (by decide)⟩
   have Bm:Hid ((W8.alloc (.cells #[.string nm] 9)).heap[w.heap.size]?=some (.cells #[.int .i64 0,.string ⟨#[]⟩,.slice none 0 0] 41 (0,0))):=(A.out.block _ (af o.out)).trans o.out;have CU:Hid ((W8.alloc (.cells #[.string nm] 9)).heap[O]?=some (.cells #[.int .i64 g,.string f,.slice none 0 0] 41 (0,0))):=(A.out.block _ (af zE.out)).trans zE.out;have hbw:¬ hb=w.heap.size:=fun e=>by have h:=S8.out.box;unfold ShBox at h;rw[e] at h;exact absurd (ai h o.out) (by decide)
   have zN:¬ w.heap.size=hb:=fun e=>hbw e.symm;have Cd:¬ hb=O:=fun e=>by have h:=S8.out.box;unfold ShBox at h;rw[e] at h;exact absurd (ai h zE.out) (by decide)
   have hbr':¬ O=hb:=fun e=>Cd e.symm
   go_wp2_with (first
    | (at_builtin;refine aN _ rfl (.tmp 235) (.tmp 237) 39 rfl w0.heap.size 9 i1 (.string ⟨#[]⟩) 1 16 Tryz.underlying39 Bf A8 Bh Bd rfl (by decide) (.slice ao q co) q (bR (l.map (·.name))) (by simp[Act.eval]) RO.out ⟨W8.heap.size,0,none⟩ 1 1 [.string nm] (by simp[Act.eval]) rfl (jA W8 _ _) (by simp[Value.oneCell']) (by unfold maxLen;omega) (by omega) Bz ?_;intro v9 w9 D r n9;have O9:=ae D;have G9:=ae r;have CK:=ae n9;have Ac:=ae (HG.out w9 r);obtain⟨g9,c9,cu9,rfl,CW⟩:=D.2.resolve_left (fun h=>by omega);clear CW D r n9;obtain⟨hbl9,-,-,-,f3,-,-,-,-,-,ff⟩:=(ShBox.blk S9.out.box Ac.out.1).facts;have ff3:=ff 3;obtain⟨rl,r0,r1,r2,rf⟩:=aI (Ac.out.2.1.trans Bm.out);have Bi:=rf 0;have Bb:=rf 1;have Bs:=rf 2;obtain⟨pl,p0,p1,p2,pf⟩:=aI (Ac.out.2.2.trans CU.out);clear ff rf pf)
    | fail)
   have Bp:=ae (S9.out.ord (x:=⟨nm,3,g,f,tg,ls⟩) (w':=w9) (v:=.slice (some ⟨g9,0,none⟩) (q+1) c9) (by rw[<-HQ.out];exact G9.out) (by rw[<-HQ.out];exact O9.out) (by rw[<-HQ.out];exact CK.out));refine bp (v:=.agg #[.int .i64 g,.string f,.slice none 0 0]) (by simp[results,Tryz.results155,go_sem,r0,r1,r2]) rfl ?_;have AQ:=(qh w9 ⟨hb,3,none⟩ (.slice (some ⟨g9,0,none⟩) (q+1) c9) w.heap.size zN).trans (Ac.out.2.1.trans Bm.out);rw[BH.out];refine⟨L1.set n ⟨m1.name,g,f,ls,.slice (some ⟨gx,0,none⟩) ln cx,true⟩,.slice (some ⟨b,0,none⟩) N zL,.slice (some ⟨g9,0,none⟩) (q+1) c9,.slice (some ⟨gp,0,none⟩) j B,rfl,?_,su BP.out fd.out Al.out Al.out rfl rfl rfl rfl rfl Bw.out HI.out,X8.out.set fd.out rfl (fun k e=>by cases e;exact CJ.out),?_⟩
   ·have x0:=Bp.out.1
    rw[List.set_set,List.set_set] at x0;replace x0:=x0.setOff AQ ⟨by decide,by decide,by decide,by decide⟩ s 0 (.int .i64 g);have y0:=av AQ (j:=0) (.int .i64 g);have x1:=x0.setOff y0 ⟨by decide,by decide,by decide,by decide⟩ s 1 (.string f);exact x1.setOff (av y0 (j:=1) (.string f)) ⟨by decide,by decide,by decide,by decide⟩ s 2 (.slice none 0 0)
   ·have k0:=((KW.out.to K8.out).to (KS.of_below (X:=XN) A.out ly S8.out.lt)).to Bp.out.2
    exact((k0.fresh ly s 0 _).fresh ly s 1 _).fresh ly s 2 _
  ·obtain⟨a,k,sv,rfl,⟨s0,s1,Co,CG,Cz,Z,bt⟩,J⟩:=zF
   have A:=ae ((q9 U).alloc ly (.cells #[.int .i64 6,.string ⟨#[]⟩,.slice a c.length k] 41));have K8:=ae ((K7.out.to J).to (KS.of_below (X:=XN) A.out ly (Nat.le_trans s (K7.out.to J).below.size)));have aq:=ae (ShBox.blk Z (A.out.block _ (af Z)));have n8:=ae (own_below bt A.out ly);have o:Hid ((U.alloc (.cells #[.int .i64 6,.string ⟨#[]⟩,.slice a c.length k] 41)).heap[w.heap.size]?=some (.cells #[.int .i64 0,.string ⟨#[]⟩,.slice none 0 0] 41 (0,0))):=by have I:=(J.blk _ _ _ _ H.out (by decide) (by decide) (by decide) fun h=>h).trans H.out;exact(A.out.block _ (af I)).trans I
   clear J Z bt;unfold fF eP;dsimp only;go_upto_region 30 with fail;clear A;generalize U.alloc (.cells #[.int .i64 6,.string ⟨#[]⟩,.slice a c.length k] 41)=P at K8 aq n8 o ⊢;obtain⟨E,-,-,-,-,-,b5,b6,b7,b8,-⟩:=aq.out.facts;have hbw:¬ hb=w.heap.size:=fun e=>by have h:=aq.out;unfold ShBox at h;rw[e] at h;exact absurd (ai h o.out) (by decide)
   have zN:¬ w.heap.size=hb:=fun e=>hbw e.symm;obtain⟨rl,r0,r1,r2,rf⟩:=aI o.out;have Bi:=rf 0;have Bb:=rf 1;have Bs:=rf 2;clear rf;simp only[eP] at b5 b6 b7;go_wp2_with fail;refine bp (v:=.agg #[.int .i64 6,.string ⟨#[]⟩,.slice a c.length k]) (by simp[results,Tryz.results155,go_sem,r0,r1,r2]) rfl ?_;have At:=(qh ((P.setCell ⟨w.heap.size,0,none⟩ (.int .i64 6)).setCell ⟨w.heap.size,1,none⟩ (.string ⟨#[]⟩)) ⟨w.heap.size,2,none⟩ (.slice a c.length k) hb hbw).trans ((qh (P.setCell ⟨w.heap.size,0,none⟩ (.int .i64 6)) ⟨w.heap.size,1,none⟩ (.string ⟨#[]⟩) hb hbw).trans ((qh P ⟨w.heap.size,0,none⟩ (.int .i64 6) hb hbw).trans aq.out));have ro:((.slice a c.length k:Value)).ownBlock≠some w.heap.size:=fun e=>by obtain⟨_,_,zT,hc⟩:=ah n8.out w.heap.size e;exact absurd (ai o.out hc) (by decide)
   refine⟨a,k,rfl,⟨_,_,_,_,_,At,?_⟩,?_⟩
   ·exact ay (ay (ay n8.out ro _ _) ro _ _) ro _ _
   ·exact((K8.out.fresh ly s 0 _).fresh ly s 1 _).fresh ly s 2 _
  ·obtain⟨sv,rfl,⟨s0,s1,Co,CG,Cz,Z,bt⟩,J⟩:=zF
   have A:=ae ((q9 U).alloc ly (.cells #[.int .i64 7,.string d,.slice none 0 0] 41));have K8:=ae ((K7.out.to J).to (KS.of_below (X:=XN) A.out ly (Nat.le_trans s (K7.out.to J).below.size)));have aq:=ae (ShBox.blk Z (A.out.block _ (af Z)));have n8:=ae (own_below bt A.out ly);have o:Hid ((U.alloc (.cells #[.int .i64 7,.string d,.slice none 0 0] 41)).heap[w.heap.size]?=some (.cells #[.int .i64 0,.string ⟨#[]⟩,.slice none 0 0] 41 (0,0))):=by have I:=(J.blk _ _ _ _ H.out (by decide) (by decide) (by decide) fun h=>h).trans H.out;exact(A.out.block _ (af I)).trans I
   clear J Z bt;unfold fF eQ;dsimp only;go_upto_region 30 with fail;clear A;generalize U.alloc (.cells #[.int .i64 7,.string d,.slice none 0 0] 41)=P at K8 aq n8 o ⊢;obtain⟨E,-,-,-,-,-,b5,b6,b7,b8,-⟩:=aq.out.facts;have hbw:¬ hb=w.heap.size:=fun e=>by have h:=aq.out;unfold ShBox at h;rw[e] at h;exact absurd (ai h o.out) (by decide)
   have zN:¬ w.heap.size=hb:=fun e=>hbw e.symm;obtain⟨rl,r0,r1,r2,rf⟩:=aI o.out;have Bi:=rf 0;have Bb:=rf 1;have Bs:=rf 2;clear rf;simp only[eQ] at b5 b6 b7;go_wp2_with fail;refine bp (v:=.agg #[.int .i64 7,.string d,.slice none 0 0]) (by simp[results,Tryz.results155,go_sem,r0,r1,r2]) rfl ?_;have At:=(qh ((P.setCell ⟨w.heap.size,0,none⟩ (.int .i64 7)).setCell ⟨w.heap.size,1,none⟩ (.string d)) ⟨w.heap.size,2,none⟩ (.slice none 0 0) hb hbw).trans ((qh (P.setCell ⟨w.heap.size,0,none⟩ (.int .i64 7)) ⟨w.heap.size,1,none⟩ (.string d) hb hbw).trans ((qh P ⟨w.heap.size,0,none⟩ (.int .i64 7) hb hbw).trans aq.out));have ro:((.slice none 0 0:Value)).ownBlock≠some w.heap.size:=fun e=>by obtain⟨_,_,zT,hc⟩:=ah n8.out w.heap.size e;exact absurd (ai o.out hc) (by decide)
   refine⟨rfl,⟨_,_,_,_,_,At,?_⟩,?_⟩
   ·exact ay (ay (ay n8.out ro _ _) ro _ _) ro _ _
   ·exact((K8.out.fresh ly s 0 _).fresh ly s 1 _).fresh ly s 2 _
end
section
variable {w0:World}{S:Spc}{a0 a1:Option Addr}{c0 c1 hb:Nat}
theorem qn {L:List SM}{making:List ByteArray}{made:List Ent}{nm:ByteArray}(h:eB L making made)(b:∀ m∈L,m.name≠nm)(p:bs made nm=none)(q:atL making nm=none){m':SM}{x:Ent}(c:m'.name=nm)(i:m'.done=true)(f:x.name=nm)(l:m'.code=(cY x).code)(o:m'.text=(cY x).text)(k:m'.seen=x.looks)(g:m'.sv=.slice none 0 0)(n:Nat):eB ((L++[dd nm]).set L.length m') making (made++[x])/\LExt n L ((L++[dd nm]).set L.length m'):=by
 have d:(L++[dd nm])[L.length]?=some (dd nm):=by rw[List.getElem?_append_right ly,Nat.sub_self];rfl
 refine⟨su (nZ h b (m:=dd nm) rfl rfl) d rfl c f i l o k (fE p) q,(LExt.add n L (m:=dd nm) rfl).set d c fun j e=>?_⟩;rw[g] at e;cases e
theorem xl (C:ju w0 S a0 a1):∀ n,j4 w0 S hb (.slice a0 S.n0 c0) (.slice a1 S.n1 c1) n:=by
 have o:∀ n,(∀ m,n=m+1->j4 w0 S hb (.slice a0 S.n0 c0) (.slice a1 S.n1 c1) m)->j4 w0 S hb (.slice a0 S.n0 c0) (.slice a1 S.n1 c1) n:=by
  intro n s making made L md or st w nm z h hrel E c q hn;have hmade:made.length<=50000:=by unfold dZ at c;omega
  have b:L.length<=100000:=by have:=hrel.len;omega
  rw[pJ];unfold eN;cases h0:bs made nm with
  | some e =>obtain⟨k,m,f1,y,u,A,H⟩:=yv hrel h0;refine(xh w nm h b k m f1 y u).mono ?_;rintro r w' ⟨rfl,g,l⟩;exact⟨L,md,or,st,by rw[A,H],g,hrel,LExt.refl _ _,l⟩
  | none =>
   cases h1:atL making nm with
   | some i =>
    obtain⟨k,m,f1,y,u,A⟩:=yw hrel h1;have D:=q nm A;cases h2:atI (nm1 S.f1) S.n1 nm with
    | none=>rw[h2] at D;cases D
    | some tg=>exact ry C w nm h b (by omega) k m f1 y u tg i h2 h1
   | none =>
    obtain⟨B,p⟩:=uX hrel h0 h1;dsimp only;unfold fD;cases h2:atI (nm0 S.f0) S.n0 nm with
    | some i =>refine(xj C w nm h b (by omega) B i h2 (kQ C.ok h2)).mono ?_;rintro r w' ⟨f,d,rfl,g,l⟩;have j:=qn hrel p h0 h1 (m':=⟨nm,0,(S.f0 i).text,[],.slice none 0 0,true⟩) (x:=⟨nm,1,0,(S.f0 i).text,0,[]⟩) rfl rfl rfl rfl rfl rfl rfl w.heap.size;exact⟨_,f,d,st,rfl,g,j.1,j.2,l⟩
    | none =>
     cases h3:atI (nm1 S.f1) S.n1 nm with
     | some t =>
      cases n with
      | zero=>exact uZ C w nm h b (by omega) B h1 t h3
      | succ m=>exact xk C m (s m rfl) w nm z h hrel E c q h0 h1 t h3
     | none =>refine(uY C w nm h b (by omega) B h2 h3).mono ?_;rintro r w' ⟨f,d,rfl,g,l⟩;have j:=qn hrel p h0 h1 (m':=⟨nm,4,nm,[],.slice none 0 0,true⟩) (x:=⟨nm,2,0,⟨#[]⟩,0,[]⟩) rfl rfl rfl rfl rfl rfl rfl w.heap.size;exact⟨_,f,d,st,rfl,g,j.1,j.2,l⟩
 intro n;induction n with
 | zero=>exact o 0 fun m e=>by omega
 | succ n G=>exact o (n+1) fun m e=>by cases e;exact G
end
end Go.Proofs.YtkophfgkcijjkaaGreatDoor.Vp
