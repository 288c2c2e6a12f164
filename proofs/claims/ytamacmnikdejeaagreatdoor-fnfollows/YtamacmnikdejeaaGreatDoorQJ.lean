import Derived.Test.YtamacmnikdejeaaGreatDoorQF
import Derived.WalkSmall
set_option maxRecDepth 1000000
set_option maxHeartbeats 8000000
open Go.Addr renaming mk->N
open Go.Value renaming slice->Y,string->U,int->J,bool->QC,agg->QG
open Option renaming none->Z,some->T
open Go.Obj renaming cells->Q
open Go.IntKind renaming i64->I
open Go renaming World->G,Value->QE
open Bool renaming false->QB,true->QD
open Go.Ending renaming returned->QF
namespace Go.Proofs.YtamacmnikdejeaaGreatDoor.Vp
open RowKit Ca Go.Maps
section
variable {w0:G}{S:Spc}{a0 a1:Option Addr}{c0 c1 mb mp:Nat}{mk md:QE}{making:List ByteArray}{made:List Ent}{QR:ByteArray->Nat}{V:ByteArray->QE}
end
end Go.Proofs.YtamacmnikdejeaaGreatDoor.Vp
namespace Go.Proofs.YtamacmnikdejeaaGreatDoor.Vp
open RowKit Go.Maps
section
variable {w0:G}{S:Spc}{a0 a1:Option Addr}{c0 c1 mb mp:Nat}{mk md:QE}{making:List ByteArray}{made:List Ent}{QR:ByteArray->Nat}{V:ByteArray->QE}
end
section
variable {w0:G}{S:Spc}{a0 a1:Option Addr}{c0 c1 mb mp:Nat}{mk md:QE}{making:List ByteArray}{made:List Ent}{QR:ByteArray->Nat}{V:ByteArray->QE}
end
end Go.Proofs.YtamacmnikdejeaaGreatDoor.Vp
namespace Go.Proofs.YtamacmnikdejeaaGreatDoor.Vp
open RowKit
theorem tS:∀ (L:List SM) (k j:Nat) (m b:SM) (u:QE),L[k]?=T m->j<6->smV b=(smV m).set j u->(L.flatMap smV).set (k*6+j) u=(L.set k b).flatMap smV
 | [],k,j,m,b,u,h,_,_=>by simp at h
 | a :: L,0,j,m,b,u,h,hj,he=>by simp only[List.getElem?_cons_zero,IF] at h;subst h;simp only[IY,List.set_cons_zero,NH,D0];rw[MW _ _ (by rw[mU];exact hj),he]
 | a :: L,k+1,j,m,b,u,h,hj,he=>by simp only[List.getElem?_cons_succ] at h;simp only[IY,LV];rw[LB _ _ (by rw[mU];omega),mU,show(k+1)*6+j - 6=k*6+j by omega,tS L k j m b u h hj he]
theorem xF {w:G}{b size n g cap j:Nat}{e:TypeId}{i:List QE}(h:w.ownsRow b e size (Y (T (N g 0 Z)) n cap) n i)(u:QE):(w.setCell (N g j Z) u).ownsRow b e size (Y (T (N g 0 Z)) n cap) n (i.set j u):=by
 refine⟨by rw[IC];exact h.1,?_⟩;rcases h.2 with ⟨f,h0⟩ | ⟨g',cap',l,f,hb,p,h1,h2,o,m⟩
 ·simp at f
 ·simp only[IB,IF,J4] at f
  obtain⟨⟨rfl,-⟩,-,rfl⟩:=f;refine .inr ⟨g,cap,l.setIfInBounds j u,rfl,hb,aA p u,h1,h2,by simpa using o,?_⟩;rw[J7,NR,m]
section
variable {w0 w w':G}{hb:Nat}{s0 s1 md or st:QE}{making:List ByteArray}{made:List Ent}{L:List SM}
theorem SI.upd {g cap k j:Nat}{m f:SM}{u:QE}(h:SI w0 hb s0 s1 w making made L (Y (T (N g 0 Z)) L.length cap) or st)(D:L[k]?=T m)(QR:j<6)(H:smV f=(smV m).set j u)(E:f.done=QD->w.ownsRow w0.heap.size 164 3 f.sv f.seen.length (dW f.seen)):SI w0 hb s0 s1 (w.setCell (N g (k*6+j) Z) u) making made (L.set k f) (Y (T (N g 0 Z)) (L.set k f).length cap) or st/\KS w0.heap.size XN w (w.setCell (N g (k*6+j) Z) u):=by
 obtain⟨l,hgl,cs,p⟩:=aj h.rmd g rfl
 have b:∀ {size n:Nat} {q:TypeId} {B:QE} {A:List QE},w.ownsRow w0.heap.size q size B n A->161≠q->(w.setCell (N g (k*6+j) Z) u).ownsRow w0.heap.size q size B n A:=fun r C=>ay r (fun e=>by
  obtain⟨_,_,z,i⟩:=aj r g e
  exact C (ar p i)) _ _
 have y:(L.set k f).length=L.length:=IC;refine⟨⟨h.bel.setCell l u,h.hbB,?_,?_,b h.ror (by decide),b h.rst (by decide),h.apart,fun x o s=>?_⟩,KS.setCell w l (.inr fun z t fz i=>.inr (.inl (ar i p))) u⟩
 ·rw[y]
  exact h.box.blk (qh _ _ _ _ fun e=>by
   have QP:hb=g:=e
   exact absurd (ar h.box (QP ▸ p)) (by decide))
 ·rw[y,<-tS L k j m f u D QR H]
  exact xF h.rmd u
 ·rcases IZ o with o | rfl
  ·exact b (h.seen x o s) (by decide)
  ·exact b (E s) (by decide)
theorem SI.addL {m:SM}{v:QE}(h:SI w0 hb s0 s1 w making made L md or st)(K:w.grownBy w' md.ownBlock)(E:w'.ownsRow w0.heap.size 161 6 v (L.length+1) (L.flatMap smV++smV m))(QN:m.done=QB):SI w0 hb s0 s1 (w'.setCell (N hb 2 Z) v) making made (L++[m]) v or st/\KS w0.heap.size XN w (w'.setCell (N hb 2 Z) v):=by
 have y:=aj h.rmd;have C:KS w0.heap.size XN w w':=KS.of_grown K h.lt fun j O=>by obtain⟨h1,_,l,h2⟩:=y j O;exact⟨h1,.inr fun l t fz q=>.inr (.inl (ar q h2))⟩
 have p:∀ (i:Nat) (l:Array QE) (t:TypeId) (fz:Nat × Nat),w.heap[i]?=T (Obj.cells l t fz)->t≠161->w'.heap[i]?=w.heap[i]?:=fun i l t fz hi M=>K.block i (ag hi) fun e=>by obtain⟨_,_,A,h2⟩:=y i e.symm;exact M (ar hi h2)
 have b:ShBox w' hb s0 s1 md or st 0 ⟨#[]⟩ (Y Z 0 0) QB:=h.box.blk (p _ _ _ _ h.box (by decide));have f:∀ {size n:Nat} {u:TypeId} {QP:QE} {H:List QE},w.ownsRow w0.heap.size u size QP n H->u≠161->89≠u->(w'.setCell (N hb 2 Z) v).ownsRow w0.heap.size u size QP n H:=fun z QO D=>by
  have QR:=de (w':=w') z fun k g=>by obtain⟨_,_,l,q⟩:=aj z k g;exact p _ _ _ _ q QO
  exact ay QR (fun e=>by
   obtain⟨_,_,A,s⟩:=aj QR hb e
   exact D (ar b s)) _ _
 have B:(w'.setCell (N hb 2 Z) v).ownsRow w0.heap.size 161 6 v (L.length+1) (L.flatMap smV++smV m):=ay E (fun e=>by
  obtain⟨_,_,A,s⟩:=aj E hb e
  exact absurd (ar b s) (by decide)) _ _
 have g:KS w0.heap.size XN w' (w'.setCell (N hb 2 Z) v):=KS.setCell w' h.hbB (.inr fun l t fz q=>.inr (.inr (ar q b))) v;refine⟨⟨h.bel.trans (C.to g).below,h.hbB,aA b v,(by rw[eI,AS,EQ,List.flatMap_singleton];exact B),f h.ror (by decide) (by decide),f h.rst (by decide) (by decide),h.apart,fun x o r=>?_⟩,C.to g⟩;rcases nL.1 o with o | o
 ·exact f (h.seen x o r) (by decide) (by decide)
 ·rw[hU.1 o,QN] at r
  cases r
theorem SI.ord {x:Ent}{v:QE}(h:SI w0 hb s0 s1 w making made L md or st)(B:w.grownBy w' or.ownBlock)(QO:w'.ownsRow w0.heap.size 9 1 v (made.length+1) (bZ (made.map (·.name))++[U x.name]))(C:v.ownBlock=or.ownBlock∨v.ownBlock=T w.heap.size):SI w0 hb s0 s1 (w'.setCell (N hb 3 Z) v) making (made++[x]) L md v st/\KS w0.heap.size XN w (w'.setCell (N hb 3 Z) v):=by
 have y:=aj h.ror;have D:KS w0.heap.size XN w w':=KS.of_grown B h.lt fun j QN=>by obtain⟨h1,_,l,h2⟩:=y j QN;exact⟨h1,.inr fun l t fz m=>.inl (ar m h2)⟩
 have r:∀ (i:Nat) (l:Array QE) (t:TypeId) (fz:Nat × Nat),w.heap[i]?=T (Obj.cells l t fz)->t≠9->w'.heap[i]?=w.heap[i]?:=fun i l t fz hi O=>B.block i (ag hi) fun e=>by obtain⟨_,_,q,h2⟩:=y i e.symm;exact O (ar hi h2)
 have f:ShBox w' hb s0 s1 md or st 0 ⟨#[]⟩ (Y Z 0 0) QB:=h.box.blk (r _ _ _ _ h.box (by decide));have o:∀ {size n:Nat} {u:TypeId} {QR:QE} {K:List QE},w.ownsRow w0.heap.size u size QR n K->u≠9->89≠u->(w'.setCell (N hb 3 Z) v).ownsRow w0.heap.size u size QR n K:=fun z H E=>by
  have p:=de (w':=w') z fun k b=>by obtain⟨_,_,l,m⟩:=aj z k b;exact r _ _ _ _ m H
  exact ay p (fun e=>by
   obtain⟨_,_,q,g⟩:=aj p hb e
   exact E (ar f g)) _ _
 have A:(w'.setCell (N hb 3 Z) v).ownsRow w0.heap.size 9 1 v (made.length+1) (bZ (made.map (·.name))++[U x.name]):=ay QO (fun e=>by
  obtain⟨_,_,q,g⟩:=aj QO hb e
  exact absurd (ar f g) (by decide)) _ _
 have b:KS w0.heap.size XN w' (w'.setCell (N hb 3 Z) v):=KS.setCell w' h.hbB (.inr fun l t fz m=>.inr (.inr (ar m f))) v;refine⟨⟨h.bel.trans (D.to b).below,h.hbB,aA f v,o h.rmd (by decide) (by decide),(by rw[eI,AS];simpa[bZ] using A),?_,fun k s=>?_,fun x P QP=>o (h.seen x P QP) (by decide) (by decide)⟩,D.to b⟩
 ·have p:w'.ownsRow w0.heap.size 9 1 st making.length (bZ making):=de h.rst fun k b=>by
   obtain⟨_,M,l,m⟩:=aj h.rst k b;exact B.block k M fun e=>h.apart k e.symm b
  exact ay p (fun e=>by
   obtain⟨_,_,q,g⟩:=aj p hb e
   exact absurd (ar f g) (by decide)) _ _
 ·intro e
  rcases C with a | a
  ·exact h.apart k (by rw[<-a];exact s) e
  ·rw[a] at s
   cases s
   have:=(aj h.rst _ e).2.1;omega
theorem SI.push {nm:ByteArray}{v:QE}(h:SI w0 hb s0 s1 w making made L md or st)(B:w.grownBy w' st.ownBlock)(QO:w'.ownsRow w0.heap.size 9 1 v (making.length+1) (bZ making++[U nm]))(C:v.ownBlock=st.ownBlock∨v.ownBlock=T w.heap.size):SI w0 hb s0 s1 (w'.setCell (N hb 4 Z) v) (making++[nm]) made L md or v/\KS w0.heap.size XN w (w'.setCell (N hb 4 Z) v):=by
 have u:=aj h.rst;have D:KS w0.heap.size XN w w':=KS.of_grown B h.lt fun j QN=>by obtain⟨h1,_,l,h2⟩:=u j QN;exact⟨h1,.inr fun l t fz m=>.inl (ar m h2)⟩
 have r:∀ (i:Nat) (l:Array QE) (t:TypeId) (fz:Nat × Nat),w.heap[i]?=T (Obj.cells l t fz)->t≠9->w'.heap[i]?=w.heap[i]?:=fun i l t fz hi O=>B.block i (ag hi) fun e=>by obtain⟨_,_,q,h2⟩:=u i e.symm;exact O (ar hi h2)
 have f:ShBox w' hb s0 s1 md or st 0 ⟨#[]⟩ (Y Z 0 0) QB:=h.box.blk (r _ _ _ _ h.box (by decide));have o:∀ {size n:Nat} {s:TypeId} {QR:QE} {K:List QE},w.ownsRow w0.heap.size s size QR n K->s≠9->89≠s->(w'.setCell (N hb 4 Z) v).ownsRow w0.heap.size s size QR n K:=fun y H E=>by
  have p:=de (w':=w') y fun k b=>by obtain⟨_,_,l,m⟩:=aj y k b;exact r _ _ _ _ m H
  exact ay p (fun e=>by
   obtain⟨_,_,q,g⟩:=aj p hb e
   exact E (ar f g)) _ _
 have A:(w'.setCell (N hb 4 Z) v).ownsRow w0.heap.size 9 1 v (making.length+1) (bZ making++[U nm]):=ay QO (fun e=>by
  obtain⟨_,_,q,g⟩:=aj QO hb e
  exact absurd (ar f g) (by decide)) _ _
 have b:KS w0.heap.size XN w' (w'.setCell (N hb 4 Z) v):=KS.setCell w' h.hbB (.inr fun l t fz m=>.inr (.inr (ar m f))) v;refine⟨⟨h.bel.trans (D.to b).below,h.hbB,aA f v,o h.rmd (by decide) (by decide),?_,(by rw[eI,AS];simpa[bZ] using A),fun k z=>?_,fun x P QP=>o (h.seen x P QP) (by decide) (by decide)⟩,D.to b⟩
 ·have p:w'.ownsRow w0.heap.size 9 1 or made.length (bZ (made.map (·.name))):=de h.ror fun k b=>by
   obtain⟨_,M,l,m⟩:=aj h.ror k b;exact B.block k M fun e=>h.apart k b e.symm
  exact ay p (fun e=>by
   obtain⟨_,_,q,g⟩:=aj p hb e
   exact absurd (ar f g) (by decide)) _ _
 ·intro e
  rcases C with a | a
  ·exact h.apart k z (by rw[<-a];exact e)
  ·rw[a] at e
   cases e
   have:=(aj h.ror _ z).2.1;omega
theorem SI.pop {nm:ByteArray}{g cap:Nat}(h:SI w0 hb s0 s1 w (making++[nm]) made L md or (Y (T (N g 0 Z)) (making.length+1) cap)):SI w0 hb s0 s1 (w.setCell (N hb 4 Z) (Y (T (N g 0 Z)) making.length cap)) making made L md or (Y (T (N g 0 Z)) making.length cap)/\KS w0.heap.size XN w (w.setCell (N hb 4 Z) (Y (T (N g 0 Z)) making.length cap)):=by
 have b:∀ {size n:Nat} {i:TypeId} {o:QE} {j:List QE},w.ownsRow w0.heap.size i size o n j->89≠i->(w.setCell (N hb 4 Z) (Y (T (N g 0 Z)) making.length cap)).ownsRow w0.heap.size i size o n j:=fun f m=>ay f (fun e=>by
  obtain⟨_,_,cs2,l⟩:=aj f hb e
  exact m (ar h.box l)) _ _
 have hst:=h.rst;rw[eI,AS] at hst;refine⟨⟨h.bel.setCell h.hbB _,h.hbB,aA h.box _,b h.rmd (by decide),b h.ror (by decide),b (ownsRow_pop (last:=[U nm]) (by simp[bZ]) (by simpa[bZ] using hst)) (by decide),h.apart,fun x q p=>b (h.seen x q p) (by decide)⟩,KS.setCell w h.hbB (.inr fun cs t fz r=>.inr (.inr (ar r h.box))) _⟩
end
theorem vI {L:List SM}(h:L.Pairwise fun m b=>m.name≠b.name){i j:Nat}{m b:SM}(hi:L[i]?=T m)(r:L[j]?=T b)(e:m.name=b.name):i=j:=by
 rw[ID] at h;obtain⟨l,g⟩:=j2.1 hi;obtain⟨n,f⟩:=j2.1 r;rcases MB i j with o | q | p
 ·exact absurd (by rw[g,f];exact e) (h i j l n o)
 ·exact q
 ·exact absurd (by rw[g,f];exact e.symm) (h j i n l p)
theorem qp {L:List SM}(hn:L.Pairwise fun m l=>m.name≠l.name){m:SM}(g:m∈L){nm:ByteArray}(e:m.name=nm):∃ k,fI L nm=T k/\L[k]?=T m:=by
 obtain⟨k,b⟩:=JH g;refine⟨k,tN b (by rw[e];simp) fun j i hj f=>?_,b⟩;cases h:(i.name.toList == nm.toList) with
 | false=>rfl
 | true =>have:=vI hn f b (by rw[bytes_beq h,e]);omega
section
variable {L:List SM}{making:List ByteArray}{made:List Ent}{nm:ByteArray}
theorem Dv (h:fe L making made){e:Ent}(l:bj made nm=T e):∃ k m,fI L nm=T k/\L[k]?=T m/\m.done=QD/\m.code=(du e).code/\m.text=(du e).text:=by obtain⟨h1,h2⟩:=gw l;obtain⟨m,b,i,o,n,j,_⟩:=h.got e h1;obtain⟨k,g,f⟩:=qp h.nod b (i.trans h2);exact⟨k,m,g,f,o,n,j⟩
theorem Dw (h:fe L making made){i:Nat}(hi:atL making nm=T i):∃ k m,fI L nm=T k/\L[k]?=T m/\m.done=QB/\nm∈making:=by
 have f:=hi;unfold atL at f;obtain⟨g,h1,_⟩:=KF.1 f;have b:nm∈making:=by rw[<-bytes_beq h1];exact gj g
 obtain⟨m,j,o,p⟩:=h.mkg nm b;obtain⟨k,n,l⟩:=qp h.nod j o;exact⟨k,m,n,l,p,b⟩
theorem zc (h:fe L making made)(g:bj made nm=Z)(h1:atL making nm=Z):fI L nm=Z/\∀ m∈L,m.name≠nm:=by
 have b:∀ m∈L,m.name≠nm:=fun m f e=>by
  rcases h.all m f with ⟨x,i,l⟩ | h2
  ·exact fD g x i (l.trans e)
  ·exact jk h1 _ h2 e
 refine⟨vG fun j m hj f=>?_,b⟩;cases h2:(m.name.toList == nm.toList) with
 | false=>rfl
 | true=>exact absurd (bytes_beq h2) (b m (IE f))
theorem qY (h:fe L making made)(j:∀ m∈L,m.name≠nm){m:SM}(i:m.name=nm)(l:m.done=QB):fe (L++[m]) (making++[nm]) made:=by
 refine⟨?_,by simp[h.len];omega,fun x n=>?_,fun t g=>?_,fun y f=>?_⟩
 ·rw[JG]
  exact⟨h.nod,List.pairwise_singleton _ _,fun a o b hb=>by rw[hU.1 hb,i];exact j a o⟩
 ·obtain⟨y,f,r⟩:=h.got x n
  exact⟨y,IS _ f,r⟩
 ·rcases nL.1 g with g | g
  ·obtain⟨y,f,r⟩:=h.mkg t g
   exact⟨y,IS _ f,r⟩
  ·exact⟨m,JD _ (hU.2 rfl),by rw[i,hU.1 g],l⟩
 ·rcases nL.1 f with f | f
  ·exact(h.all y f).imp id fun h=>IS _ h
  ·rw[hU.1 f,i]
   exact .inr (JD _ (hU.2 rfl))
theorem vJ {g:List Ent}{k:Nat}{m b:SM}{x:Ent}(h:fe L (making++[nm]) g)(u:L[k]?=T m)(QR:m.name=nm)(n:b.name=nm)(A:x.name=nm)(O:b.done=QD)(P:b.code=(du x).code)(M:b.text=(du x).text)(K:b.seen=x.looks)(QN:∀ y∈g,y.name≠nm)(h1:atL making nm=Z):fe (L.set k b) making (g++[x]):=by
 have E:=(j2.1 u).1;have QP:=(j2.1 u).2;have p:∀ y∈L,y.name≠nm->y∈L.set k b:=fun y f C=>by
  obtain⟨i,hi⟩:=JH f;refine IE (i:=i) ?_;rw[JO fun e=>?_]
  ·exact hi
  ·subst e
   rw[u] at hi;cases hi
   exact C QR
 have B:b∈L.set k b:=IE (I5 E);refine⟨?_,by rw[IC,h.len];simp;omega,fun y f=>?_,fun t q=>?_,fun y f=>?_⟩
 ·have o:=h.nod
  rw[ID] at o ⊢;have s:∀ (i:Nat) (hi:i<(L.set k b).length),(L.set k b)[i].name=(L[i]'(by simpa using hi)).name:=fun i hi=>by
   rw[List.getElem_set];split
   ·rename_i e;subst e;rw[QP,QR,n]
   ·rfl
  intro i j hi H D;rw[s i hi,s j H];exact o i j (by simpa using hi) (by simpa using H) D
 ·rcases nL.1 f with f | f
  ·obtain⟨z,hz,l,r⟩:=h.got y f
   exact⟨z,p z hz (by rw[l];exact QN y f),l,r⟩
  ·rw[hU.1 f]
   exact⟨b,B,by rw[n,A],O,P,M,K⟩
 ·obtain⟨z,hz,l,r⟩:=h.mkg t (IS _ q)
  exact⟨z,p z hz (by rw[l];exact jk h1 t q),l,r⟩
 ·rcases IZ f with QO | rfl
  ·rcases h.all y QO with ⟨z,hz,e⟩ | h2
   ·exact .inl ⟨z,IS _ hz,e⟩
   ·rcases nL.1 h2 with h2 | h2
    ·exact .inr h2
    ·exact .inl ⟨x,JD _ (hU.2 rfl),by rw[A,hU.1 h2]⟩
  ·exact .inl ⟨x,JD _ (hU.2 rfl),by rw[A,n]⟩
end
theorem nC {S:Spc}(h:SpcOk S){nm:ByteArray}{i:Nat}(hi:atI (nm0 S.f0) S.n0 nm=T i):atI (nm1 S.f1) S.n1 nm=Z:=by
 have b:=h.chk;unfold bh at b;split at b;· omega
 split at b;· omega
 split at b;· omega
 split at b;· omega
 split at b;· omega
 split at b;· omega
 rename_i f;obtain⟨h1,h2⟩:=bJ hi;have:=jj (Bool.eq_false_iff.2 f) h1;rw[h2] at this;exact tM this
end Go.Proofs.YtamacmnikdejeaaGreatDoor.Vp
namespace Go.Proofs.YtamacmnikdejeaaGreatDoor.Vp
open RowKit Ca
section
variable {w0:G}{S:Spc}{a0 a1:Option Addr}{c0 c1 hb:Nat}{md or st:QE}{making:List ByteArray}{made:List Ent}{L:List SM}
theorem Bh (w:G)(nm:ByteArray)(h:SI w0 hb (Y a0 S.n0 c0) (Y a1 S.n1 c1) w making made L md or st)(s:L.length<=100000)(k:Nat)(m:SM)(h1:fI L nm=T k)(h2:L[k]?=T m)(z:m.done=QD):Calls Tryz.prog 91 #[.pointer (T (N hb 0 Z)),U nm] w fun e w'=>e=QF (QG #[J I m.code,U m.text,Y Z 0 0])/\SI w0 hb (Y a0 S.n0 c0) (Y a1 S.n1 c1) w' making made L md or st/\KS w0.heap.size XN w w':=by
 have r:=ae ((q9 w).alloc ly (Q #[J I 0,U ⟨#[]⟩,Y Z 0 0] 37));have kr:Hid ((w.alloc (Q #[J I 0,U ⟨#[]⟩,Y Z 0 0] 37)).heap[w.heap.size]?=T (Q #[J I 0,U ⟨#[]⟩,Y Z 0 0] 37 (0,0))):=eT _ _;have f:=ae (h.below r ly);have b:w0.heap.size<=w.heap.size:=h.lt;have hkl:=(j2.1 h2).1;obtain⟨g,cap,cur,rfl,-⟩:=h.rmd.2.resolve_left (fun h=>by omega);have y:da (fI L nm)=(k:Int):=by rw[h1];rfl
 have o:=ae h2;obtain⟨n,hn⟩:∃ n,n=L.length:=⟨_,rfl⟩
 have C:=ae hn;have hkn:k<n:=by omega
 clear h h1 h2 hn;go_enter Tryz.func91,Tryz.ntmps91;go_wp2_with fail;generalize w.alloc (Q #[J I 0,U ⟨#[]⟩,Y Z 0 0] 37)=l at r kr f ⊢;refine(gG l nm f s).mono ?_;rintro e w1 ⟨rfl,q⟩;rw[q];clear q;rw[y];obtain⟨hbl,-,-,A,-⟩:=f.box.facts;have d1:l.cell? (N g (k*6+1) Z)=T (J I m.code):=bR f.rmd o 1 (by omega) rfl;have d2:l.cell? (N g (k*6+2) Z)=T (U m.text):=bR f.rmd o 2 (by omega) rfl;have d3:l.cell? (N g (k*6+3) Z)=T (Y Z 0 0):=bR f.rmd o 3 (by omega) rfl;have d5:l.cell? (N g (k*6+5) Z)=T (QC QD):=by have:=bR f.rmd o.out 5 (by omega) (u:=QC m.done) rfl;rw[z] at this;exact this
 rw[<-C.out] at A;obtain⟨rl,r0,r1,x,p⟩:=aY kr;have rf0:=p 0;have rf1:=p 1;have rf2:=p 2;have hI0:(0:Int)<=(k:Int):=by omega
 have hI1:(k:Int)<(n:Int):=by omega
 clear p;go_wp2_with fail;refine bp (v:=QG #[J I m.code,U m.text,Y Z 0 0]) (by simp[results,Tryz.results91,go_sem,r0,r1,x]) rfl ⟨rfl,?_,?_⟩
 ·have B:=f.setOff kr.out ⟨by decide,by decide,by decide,by decide⟩ b 0 (J I m.code)
  have t:=aA kr.out (j:=0) (J I m.code);have D:=B.setOff t ⟨by decide,by decide,by decide,by decide⟩ b 1 (U m.text);exact D.setOff (aA t (j:=1) (U m.text)) ⟨by decide,by decide,by decide,by decide⟩ b 2 (Y Z 0 0)
 ·refine((((KS.of_below (X:=XN) r ly b).trans (KS.setCell (X:=fun i=>i=w.heap.size) _ b (Or.inl rfl) _) ?_).trans (KS.setCell (X:=fun i=>i=w.heap.size) _ b (Or.inl rfl) _) ?_).trans (KS.setCell (X:=fun i=>i=w.heap.size) _ b (Or.inl rfl) _) ?_)
  all_goals
   intro i hi h;have e2:i=w.heap.size:=h;omega
theorem oC {w:G}{b g cap n:Nat}{M:List ByteArray}(h:w.ownsRow b 9 1 (Y (T (N g 0 Z)) n cap) n (bZ M)){i:Nat}{t:ByteArray}(f:M[i]?=T t):w.cell? (N g i Z)=T (U t):=by have h1:=h.cells (g:=g) rfl i (U t) (by rw[bZ,IH,f];rfl);rw[addr_add,D0] at h1;exact h1
theorem uO (C:lA w0 S a0 a1)(w:G)(nm:ByteArray)(h:SI w0 hb (Y a0 S.n0 c0) (Y a1 S.n1 c1) w making made L md or st)(Fw:L.length<=100000)(DQ:making.length<=60)(k:Nat)(m:SM)(h1:fI L nm=T k)(h2:L[k]?=T m)(hd:m.done=QB)(tg B:Nat)(ht:atI (nm1 S.f1) S.n1 nm=T tg)(hi:atL making nm=T B):Calls Tryz.prog 91 #[.pointer (T (N hb 0 Z)),U nm] w fun e w'=>jo w0 hb (Y a0 S.n0 c0) (Y a1 S.n1 c1) making L w e w' (.inr (.inl (making.drop B))):=by
 obtain⟨i1,Fl,Fm,Fi,Fo⟩:=eY gI;have A0:=ae ((q9 w).alloc ly (Q #[J I 0,U ⟨#[]⟩,Y Z 0 0] 37));have kr:Hid ((w.alloc (Q #[J I 0,U ⟨#[]⟩,Y Z 0 0] 37)).heap[w.heap.size]?=T (Q #[J I 0,U ⟨#[]⟩,Y Z 0 0] 37 (0,0))):=eT _ _;have QL:=ae (h.below A0 ly);have o:w0.heap.size<=w.heap.size:=h.lt;have hkl:=(j2.1 h2).1;obtain⟨g,cap,cur,rfl,-⟩:=h.rmd.2.resolve_left (fun h=>by omega);have e1:da (fI L nm)=(k:Int):=by rw[h1];rfl
 have QN:da (atI (nm1 S.f1) S.n1 nm)=(tg:Int):=by rw[ht];rfl
 have Fn:B<making.length/\(∃ x,making[B]?=T x/\(x.toList == nm.toList)=QD)/\∀ (j:Nat) (y:ByteArray),j<B->making[j]?=T y->(y.toList == nm.toList)=QB:=by unfold atL at hi;obtain⟨q1,q2,q3⟩:=KF.1 hi;refine⟨q1,⟨_,gq q1,q2⟩,fun j y hj hy=>?_⟩;have:=q3 j hj;rw[KU] at this;rw[(j2.1 hy).2] at this;exact this
 obtain⟨DS,⟨xi,ur,th⟩,la⟩:=Fn;obtain⟨V,l,cus,rfl,ro⟩:=h.rst.2.resolve_left (fun h=>by omega);have Fh:making.length<=l:=ro.2.2.1;have H2:=ae h2;have Fu:=ae ur;have Fd:=ae la;have Ff:=ae th;obtain⟨n,hn⟩:∃ n,n=L.length:=⟨_,rfl⟩
 have HN:=ae hn;have hkn:k<n:=by omega
 obtain⟨f,ex⟩:∃ f,f=making.length:=⟨_,rfl⟩
 have D:=ae ex;have CC:=ae C;have hsm:=C.ok.small;rw[<-ex] at DS DQ Fh;clear h h1 h2 hn C ht hi ro ex ur th la;go_enter Tryz.func91,Tryz.ntmps91;go_wp2_with fail;generalize w.alloc (Q #[J I 0,U ⟨#[]⟩,Y Z 0 0] 37)=W0 at A0 kr QL ⊢;refine(gG W0 nm QL Fw).mono ?_;rintro e w1 ⟨rfl,ld⟩;rw[ld];clear ld;rw[e1];obtain⟨R,b0,b1,b2,-⟩:=QL.box.facts;have d5:W0.cell? (N g (k*6+5) Z)=T (QC QB):=by have:=bR QL.rmd H2.out 5 (by omega) (u:=QC m.done) rfl;rw[hd] at this;exact this
 rw[<-HN.out] at b2;have hI0:(0:Int)<=(k:Int):=by omega
 have hI1:(k:Int)<(n:Int):=by omega
 go_wp2_with fail;refine(dU a0 S.n0 c0 a1 S.n1 c1 S.f0 nm W0 (by omega) (CC.src.below QL.bel ly)).mono ?_;rintro e w1 ⟨rfl,A⟩;have S1:=ae (QL.below A ly);have n8:Hid (w1.heap[w.heap.size]?=_):=(A.block _ (ag kr)).trans kr;have K1:=ae (A0.trans (A.mono A0.size));clear A b0 b1 b2 R d5;obtain⟨R,b0,b1,-⟩:=S1.box.facts;go_wp2_with fail;refine(eu a0 S.n0 c0 a1 S.n1 c1 S.f1 nm w1 (by omega) (CC.tgt.below S1.bel ly)).mono ?_;rintro e O ⟨he,A⟩;rw[QN] at he;subst he;have s:=ae (S1.below A ly);have qr:Hid (O.heap[w.heap.size]?=_):=(A.block _ (ag n8)).trans n8;have K2:=ae (K1.trans (A.mono K1.size));clear A b0 b1 R;obtain⟨R,-,-,-,-,b4,b5,b6,b7,b8,bf⟩:=s.box.facts;have Fe:=bf 5;have Fp:=bf 6;have Fs:=bf 7;have Fg:=bf 8;rw[<-D.out] at b4;clear bf;have hT0:(0:Int)<=(tg:Int):=by omega
 go_wp2_with fail;go_loop [9] (fun i=>∃ j:Nat,j<=B/\i=J I j) (fun i=>B - (intOf i).toNat);case atStart=>exact⟨0,by omega,rfl⟩
 case round =>
  obtain⟨j,hj,rfl⟩:=hrel;obtain⟨y,hy⟩:∃ y,making[j]?=T y:=⟨_,gq (by have:=D.out;omega)⟩
  have dj:O.cell? (N V j Z)=T (U y):=oC s.rst hy;have hjm:(j:Int)<(f:Int):=by omega
  have HY:=ae hy;clear hy;by_cases Fb:j<B
  ·have Fk:=Fd.out j y Fb HY.out
   have HNE:=ae Fk;go_wp2;exact⟨⟨j+1,by omega,by go_num⟩,by simp[intOf];omega⟩
  ·obtain rfl:j=B:=by omega
   have hye:(y.toList == nm.toList)=QD:=by
    have:=HY.out;rw[Fu.out] at this;cases this
    exact Ff
   go_upto_region 22 with fail;clear dj b4 b5 b6 b7 b8 Fe Fp Fs Fg;have ph:=ae (aA s.box (j:=8) (QC QD))
   have R3:Hid ((O.setCell (N hb 8 Z) (QC QD)).ownsRow w0.heap.size 9 1 (Y (T (N V 0 Z)) making.length l) making.length (bZ making)):=ay s.rst (fun e=>by
    obtain⟨_,_,n6,E⟩:=aj s.rst hb e
    exact absurd (ar s.box E) (by decide)) _ _
   have hbw:hb≠w.heap.size:=fun e=>absurd (ar s.box (e ▸ qr.out)) (by decide);have QM:Hid ((O.setCell (N hb 8 Z) (QC QD)).heap[w.heap.size]?=_):=(qh _ _ _ _ (Ne.symm hbw)).trans qr;have QK:Hid (KS w0.heap.size XN w (O.setCell (N hb 8 Z) (QC QD))):=(KS.of_below (X:=XN) K2 ly o).to (KS.setCell O s.hbB (.inr fun l t fz M=>.inr (.inr (ar M s.box))) _);have fd:w0.heap.size<=hb:=s.hbB;generalize O.setCell (N hb 8 Z) (QC QD)=b at ph R3 QM QK ⊢;have QR:Hid (ShBox b hb (Y a0 S.n0 c0) (Y a1 S.n1 c1) (Y (T (N g 0 Z)) L.length cap) or (Y (T (N V 0 Z)) making.length l) 0 ⟨#[]⟩ (Y Z 0 0) QD):=ph.out;obtain⟨Fa,-,-,-,-,b4,-⟩:=QR.facts;rw[<-D.out] at b4;have LO:=ae (ki b 9 1);have A4:=ae ((q9 b).alloc ly (Q #[] 9));have Ft:Hid (∀ q u,(bZ (making.drop j))[q]?=T u->(b.alloc (Q #[] 9)).cell? (((N V j Z):Addr).add q)=T u):=fun q u hq=>by have h1:=(own_below R3 A4 ly).cells (g:=V) rfl (j+q) u (by rw[<-hq,bZ,bZ,IH,IH,List.getElem?_drop]);rw[addr_add,D0] at h1;rw[addr_add];exact h1
   have hjc:¬ l=j:=by omega
   have hI2:(0:Int)<=(j:Int):=by omega
   have hI3:(j:Int)<=(f:Int):=by omega
   have hI4:(f:Int)<=(l:Int):=by omega
   have n7:(bZ (making.drop j)).length=(f - j)*1:=by rw[bZ,JN,IM,<-D.out,Nat.mul_one]
   have Fv:=ae n7;have aq:∀ u∈bZ (making.drop j),u.oneCell'=QD:=fun u hu=>by rw[bZ,IW] at hu;obtain⟨t,_,rfl⟩:=hu;rfl
   have CD:=ae aq;clear n7 aq;have HG:Hid (∀ r:G,(b.alloc (Q #[] 9)).grownBy r (T b.heap.size)->r.heap[hb]?=b.heap[hb]?/\r.heap[w.heap.size]?=b.heap[w.heap.size]?):=fun r hg=>by
    have hz:(b.alloc (Q #[] 9)).heap.size=b.heap.size+1:=by simp
    have Fj:=ag QM.out;exact⟨(hg.block hb (by omega) (fun e=>by have QN:hb=b.heap.size:=DC e;omega)).trans (A4.block hb Fa),(hg.block w.heap.size (by omega) (fun e=>by have QN:w.heap.size=b.heap.size:=DC e;omega)).trans (A4.block _ Fj)⟩
   have bt:b.heap.size<=(b.alloc (Q #[] 9)).heap.size:=by simp
   have DE:(0+(f - j))*16<=140737488355328:=by omega
   have E9:0+(f - j)<=maxLen:=by unfold maxLen;omega
   have Bk:0+(f - j)≠0:=by omega
   go_wp2_with (first
    | (at_builtin;refine bu _ rfl (.tmp 129) (.tmp 135) 35 rfl b.heap.size 9 i1 (U ⟨#[]⟩) 1 16 Tryz.underlying35 Fl Fm Fi Fo rfl (by decide) (Y (T (N b.heap.size 0 Z)) 0 0) 0 [] (by simp[Act.eval]) LO.out (N V j Z) (f - j) (l - j) (bZ (making.drop j)) (by simp[Act.eval]) Fv.out Ft.out CD.out E9 DE bt ?_;intro v4 r QO p Fc;have O4:=ae QO;have n9:=ae (HG r p).1;have At:=ae (HG r p).2;have G4:=ae p;obtain⟨K,c4,cu4,rfl,Fx⟩:=QO.2.resolve_left (fun h=>Bk h.2);clear Fx QO p Fc;obtain⟨hbl4,-,-,-,-,-,f5,f6,f7,-,ff⟩:=(ShBox.blk QR n9).facts;have ff5:=ff 5;have ff6:=ff 6;have ff7:=ff 7;obtain⟨rl,r0,r1,r2,rf⟩:=aY (At.trans QM);have rf0:=rf 0;have rf1:=rf 1;have rf2:=rf 2;have hbw2:¬ w.heap.size=hb:=(fun e=>hbw e.symm);have QP:¬ hb=w.heap.size:=hbw;clear ff rf)
    | fail)
   refine bp (v:=QG #[J I 6,U ⟨#[]⟩,Y (T (N K 0 Z)) (f - j) c4]) (by simp[results,Tryz.results91,go_sem,r0,r1,r2]) rfl ?_;have QJ:(making.drop j).length=f - j:=by rw[IM,<-D.out]
   have QH:=n9.trans QR.out;have sm:=aA QH (j:=5) (J I 6);have mv:=aA sm (j:=6) (U ⟨#[]⟩);have Fq:=aA mv (j:=7) (Y (T (N K 0 Z)) (f - j) c4);have H:(Value.slice (T (N K 0 Z)) (f - j) c4).ownBlock≠T hb:=fun e=>by obtain⟨_,_,n6,E⟩:=aj O4 hb (by simpa[Value.ownBlock] using e);exact absurd (ar QH E) (by decide)
   have P:(Value.slice (T (N K 0 Z)) (f - j) c4).ownBlock≠T w.heap.size:=fun e=>by obtain⟨_,_,n6,E⟩:=aj O4 w.heap.size (by simpa[Value.ownBlock] using e);exact absurd (ar (At.trans QM) E) (by decide)
   have o4:r.ownsRow w0.heap.size 9 1 (Y (T (N K 0 Z)) (f - j) c4) (f - j) (bZ (making.drop j)):=by have h1:=O4.out;rw[D0,IN] at h1;exact aE h1 (p9 o QK.below.size)
   have k4:KS w0.heap.size XN w r:=(QK.to (KS.of_below (X:=XN) A4 ly (p9 o QK.below.size))).to (KS.of_grown G4 (p9 (p9 o QK.below.size) bt) fun q hq=>by
    have QN:q=b.heap.size:=(DC hq).symm;refine⟨by rw[QN];exact p9 o QK.below.size,.inr fun l t fz M=>?_⟩;rw[QN] at M
    exact .inl (ar M (eT b _)))
   have z:∀ (W:G) (l:Array QE) (t:TypeId) (fz:Nat × Nat),W.heap[hb]?=r.heap[hb]?∨(∃ c2,W.heap[hb]?=T (Q c2 89 (0,0)))->W.heap[hb]?=T (Q l t fz)->t=9∨t=161∨t=89:=fun W l t fz hW M=>by
    rcases hW with hW | ⟨c2,hW⟩
    ·exact .inr (.inr (ar M (hW.trans QH)))
    ·exact .inr (.inr (ar M hW))
   refine⟨T (N K 0 Z),c4,by rw[QJ];rfl,⟨_,_,_,_,_,(qh _ _ _ _ QP).trans ((qh _ _ _ _ QP).trans ((qh _ _ _ _ QP).trans (by rw[QJ];exact Fq))),?_⟩,?_⟩
   ·show World.ownsRow _ _ _ _ _ (making.drop j).length _
    rw[QJ];exact ay (ay (ay (ay (ay (ay o4 H _ _) H _ _) H _ _) P _ _) P _ _) P _ _
   ·have k7:=((k4.to (KS.setCell (X:=XN) r fd (.inr fun l t fz=>z _ l t fz (.inl rfl)) (J I 6) (j:=5))).to (KS.setCell (X:=XN) _ fd (.inr fun l t fz=>z _ l t fz (.inr ⟨_,sm⟩)) (U ⟨#[]⟩) (j:=6))).to (KS.setCell (X:=XN) _ fd (.inr fun l t fz=>z _ l t fz (.inr ⟨_,mv⟩)) (Y (T (N K 0 Z)) (f - j) c4) (j:=7))
    refine((k7.trans (KS.setCell (X:=fun i=>i=w.heap.size) _ o (Or.inl rfl) _) ?_).trans (KS.setCell (X:=fun i=>i=w.heap.size) _ o (Or.inl rfl) _) ?_).trans (KS.setCell (X:=fun i=>i=w.heap.size) _ o (Or.inl rfl) _) ?_;all_goals
     intro i hi h;have QN:i=w.heap.size:=h;omega
end
def dl (nm:ByteArray):SM:=⟨nm,0,⟨#[]⟩,[],Y Z 0 0,QB⟩
theorem lF (w:G)(b f g l n i:QE)(t:TypeId):∀ j u,[b,f,g,l,n,i][j]?=T u->(w.alloc (Q #[b,f,g,l,n,i] t)).cell? (((N w.heap.size 0 Z):Addr).add j)=T u:=by
 intro j u h;rw[addr_add];have hj:j<6:=by
  rcases JK j 6 with m | m
  ·exact m
  ·rw[I6 (by simp;omega)] at h;cases h
 rcases(show j=0∨j=1∨j=2∨j=3∨j=4∨j=5 by omega) with rfl | rfl | rfl | rfl | rfl | rfl;all_goals
  simp at h;subst h;simp
theorem lG (w:G)(v:QE)(t:TypeId):∀ j u,[v][j]?=T u->(w.alloc (Q #[v] t)).cell? (((N w.heap.size 0 Z):Addr).add j)=T u:=by
 intro j u h;rw[addr_add];have b:j=0:=by
  rcases JK j 1 with f | f
  ·omega
  ·rw[I6 (by simp;omega)] at h;cases h
 subst b;simp at h;subst h;simp
theorem ew {w:G}{b size n:Nat}{e:TypeId}{v:QE}{f:List QE}(h:w.ownsRow b e size v n f):∃ a cap,v=Y a n cap:=by
 obtain⟨_,⟨rfl,rfl⟩ | ⟨g,cap,cur,rfl,_⟩⟩:=h
 ·exact⟨Z,0,rfl⟩
 ·exact⟨_,_,rfl⟩
theorem KS.fresh {B:Nat}{W w:G}(h:KS B XN W w){b:Nat}(hb:W.heap.size<=b)(f:B<=W.heap.size)(j:Nat)(u:QE):KS B XN W (w.setCell (N b j Z) u) :=
 h.trans (KS.setCell (X:=fun i=>i=b) w (p9 f hb) (Or.inl rfl) u) fun i hi g=>by have e2:i=b:=g;omega
section
variable {w0 w:G}{hb:Nat}{s0 s1 or st:QE}{making:List ByteArray}{made:List Ent}{L:List SM}
theorem SI.upd' {g cap k j QN:Nat}{m m':SM}{u:QE}(f:L.length=QN)(h:SI w0 hb s0 s1 w making made L (Y (T (N g 0 Z)) QN cap) or st)(b:L[k]?=T m)(l:j<6)(n:smV m'=(smV m).set j u)(i:m'.done=QD->w.ownsRow w0.heap.size 164 3 m'.sv m'.seen.length (dW m'.seen)):SI w0 hb s0 s1 (w.setCell (N g (k*6+j) Z) u) making made (L.set k m') (Y (T (N g 0 Z)) QN cap) or st/\KS w0.heap.size XN w (w.setCell (N g (k*6+j) Z) u)/\(L.set k m')[k]?=T m'/\(L.set k m').length=QN:=by subst f;have:=h.upd b l n i;rw[IC] at this;exact⟨this.1,this.2,I5 (j2.1 b).1,IC⟩
theorem SI.told {g cap k QN:Nat}{m:SM}(y:L.length=QN)(h:SI w0 hb s0 s1 w making made L (Y (T (N g 0 Z)) QN cap) or st)(o:L[k]?=T m)(p:m.done=QB)(b:Int)(f:ByteArray):SI w0 hb s0 s1 (((w.setCell (N g (k*6+1) Z) (J I b)).setCell (N g (k*6+1+1) Z) (U f)).setCell (N g (k*6+1+2) Z) (Y Z 0 0)) making made (L.set k ⟨m.name,b,f,m.seen,m.sv,QB⟩) (Y (T (N g 0 Z)) QN cap) or st/\KS w0.heap.size XN w (((w.setCell (N g (k*6+1) Z) (J I b)).setCell (N g (k*6+1+1) Z) (U f)).setCell (N g (k*6+1+2) Z) (Y Z 0 0))/\(L.set k ⟨m.name,b,f,m.seen,m.sv,QB⟩)[k]?=T ⟨m.name,b,f,m.seen,m.sv,QB⟩/\(L.set k ⟨m.name,b,f,m.seen,m.sv,QB⟩).length=QN:=by obtain⟨a1,z,s,q⟩:=h.upd' y o (j:=1) (by omega) (u:=J I b) (m':=⟨m.name,b,m.text,m.seen,m.sv,QB⟩) (by simp[smV,p]) (fun h=>by cases h);obtain⟨r,x,B,t⟩:=a1.upd' q s (j:=2) (by omega) (u:=U f) (m':=⟨m.name,b,f,m.seen,m.sv,QB⟩) rfl (fun h=>by cases h);obtain⟨i,A,n,l⟩:=r.upd' t B (j:=3) (by omega) (m':=⟨m.name,b,f,m.seen,m.sv,QB⟩) (u:=Y Z 0 0) rfl (fun h=>by cases h);rw[LL,LL] at i n l;exact⟨i,(z.to x).to A,n,l⟩
end
section
variable {w0:G}{S:Spc}{a0 a1:Option Addr}{c0 c1 hb:Nat}{md or st:QE}{making:List ByteArray}{made:List Ent}{L:List SM}
theorem zd (C:lA w0 S a0 a1)(w:G)(nm:ByteArray)(h:SI w0 hb (Y a0 S.n0 c0) (Y a1 S.n1 c1) w making made L md or st)(Fu:L.length<=100000)(Fh:made.length<=100000)(h1:fI L nm=Z)(h2:atI (nm0 S.f0) S.n0 nm=Z)(h3:atI (nm1 S.f1) S.n1 nm=Z):Calls Tryz.prog 91 #[.pointer (T (N hb 0 Z)),U nm] w fun e w'=>∃ Fx Fg,e=QF (QG #[J I 4,U nm,Y Z 0 0])/\SI w0 hb (Y a0 S.n0 c0) (Y a1 S.n1 c1) w' making (made++[⟨nm,2,0,⟨#[]⟩,0,[]⟩]) ((L++[dl nm]).set L.length ⟨nm,4,nm,[],Y Z 0 0,QD⟩) Fx Fg st/\KS w0.heap.size XN w w':=by
 obtain⟨im,Fa,DS,Ft,Fq⟩:=eY lB;obtain⟨i1,Fk,Fn,Fi,Fo⟩:=eY gI;have A0:=ae ((q9 w).alloc ly (Q #[J I 0,U ⟨#[]⟩,Y Z 0 0] 37));have kr:Hid ((w.alloc (Q #[J I 0,U ⟨#[]⟩,Y Z 0 0] 37)).heap[w.heap.size]?=T (Q #[J I 0,U ⟨#[]⟩,Y Z 0 0] 37 (0,0))):=eT _ _;have S0:=ae (h.below A0 ly);have B:w0.heap.size<=w.heap.size:=h.lt;have e1:da (fI L nm)=-1:=by rw[h1];rfl
 obtain⟨am,cm,rfl⟩:=ew h.rmd;obtain⟨n,hn⟩:∃ n,n=L.length:=⟨_,rfl⟩
 have O:=ae hn;have CC:=ae C;have hsm:=C.ok.small;have hn1:n<=100000:=by omega
 clear h h1 hn C;have es:da (atI (nm0 S.f0) S.n0 nm)=-1:=by rw[h2];rfl
 have et:da (atI (nm1 S.f1) S.n1 nm)=-1:=by rw[h3];rfl
 clear h2 h3;go_enter Tryz.func91,Tryz.ntmps91;go_wp2_with fail;generalize w.alloc (Q #[J I 0,U ⟨#[]⟩,Y Z 0 0] 37)=z at A0 kr S0 ⊢;refine(gG z nm S0 Fu).mono ?_;rintro e w1 ⟨rfl,mv⟩;rw[mv,e1];clear mv e1;obtain⟨y,-,-,QO,-⟩:=S0.box.facts;rw[<-O.out] at QO;have A1:=ae ((q9 z).alloc ly (Q #[U nm,J I 0,U ⟨#[]⟩,Y Z 0 0,Y Z 0 0,QC QB] 161));have SA:=ae (S0.below A1 ly);have RM:=ae (by have h:=SA.rmd;rw[<-O.out] at h;exact h);have Fs:(z.alloc (Q #[U nm,J I 0,U ⟨#[]⟩,Y Z 0 0,Y Z 0 0,QC QB] 161)).heap.size=z.heap.size+1:=by simp
 have HG:Hid (∀ o:G,(z.alloc (Q #[U nm,J I 0,U ⟨#[]⟩,Y Z 0 0,Y Z 0 0,QC QB] 161)).grownBy o (Value.slice am n cm).ownBlock->o.heap[hb]?=(z.alloc (Q #[U nm,J I 0,U ⟨#[]⟩,Y Z 0 0,Y Z 0 0,QC QB] 161)).heap[hb]?):=fun o hg=>hg.block hb (by omega) fun e=>by obtain⟨_,_,cs,hc⟩:=aj RM hb e.symm;exact absurd (ar SA.box hc) (by decide)
 have DE:w0.heap.size<=(z.alloc (Q #[U nm,J I 0,U ⟨#[]⟩,Y Z 0 0,Y Z 0 0,QC QB] 161)).heap.size:=SA.lt;have hz1':z.heap.size<(z.alloc (Q #[U nm,J I 0,U ⟨#[]⟩,Y Z 0 0,Y Z 0 0,QC QB] 161)).heap.size:=by omega
 clear Fs
 go_upto_region 7 with (first
  | (at_builtin;refine bu _ rfl (.tmp 46) (.tmp 49) 87 rfl w0.heap.size 161 im (QG #[U ⟨#[]⟩,J I 0,U ⟨#[]⟩,Y Z 0 0,Y Z 0 0,QC QB]) 6 96 Tryz.underlying87 Fa DS Ft Fq rfl (by decide) (Y am n cm) n (L.flatMap smV) (by simp[Act.eval]) RM.out (N z.heap.size 0 Z) 1 1 [U nm,J I 0,U ⟨#[]⟩,Y Z 0 0,Y Z 0 0,QC QB] (by simp[Act.eval]) rfl (lF z _ _ _ _ _ _ _) (by simp[Value.oneCell']) (by unfold maxLen;omega) (by omega) DE ?_;intro v2 o r f QL;have O2:=ae r;have G2:=ae f;have sm:=ae (HG o f);obtain⟨b,A,cu2,rfl,Fv⟩:=r.2.resolve_left (fun h=>by omega);clear Fv r f QL;obtain⟨DQ,-,-,f2,-,-,-,-,-,-,ff⟩:=(ShBox.blk SA.box sm).facts;have E9:=ff 2;clear ff)
  | fail)
 have SX:=ae (SA.addL (m:=dl nm) (w':=o) (v:=Y (T (N b 0 Z)) (n+1) A) (by rw[<-O.out];exact G2) (by rw[<-O.out];exact O2) rfl);have S3:=ae SX.1;have K3:Hid (KS w0.heap.size XN w (o.setCell (N hb 2 Z) (Y (T (N b 0 Z)) (n+1) A))):=((KS.of_below (X:=XN) A0 ly B).to (KS.of_below A1 ly S0.lt)).to SX.2;have W:Hid ((o.setCell (N hb 2 Z) (Y (T (N b 0 Z)) (n+1) A)).heap[w.heap.size]?=T (Q #[J I 0,U ⟨#[]⟩,Y Z 0 0] 37 (0,0))):=by have h0:=(A1.block _ (ag kr)).trans kr;exact(SX.2.blk _ _ _ _ h0 (by decide) (by decide) (by decide) fun h=>h).trans h0
 have H:(L++[dl nm]).length=n+1:=by rw[eI,AS,<-O.out]
 have QH:Hid ((L++[dl nm])[n]?=T (dl nm)):=by rw[O.out];show _=_;rw[BS ly,J2];rfl
 clear SX f2 E9 DQ QO y RM SA A1 HG O2 G2 sm;generalize o.setCell (N hb 2 Z) (Y (T (N b 0 Z)) (n+1) A)=W3 at S3 K3 W ⊢;obtain⟨y,b0,b1,-⟩:=S3.box.facts;go_wp2_with fail;refine(dU a0 S.n0 c0 a1 S.n1 c1 S.f0 nm W3 (by omega) (CC.src.below S3.bel ly)).mono ?_;rintro e w4 ⟨he,QR⟩;rw[es] at he;subst he;have S4:=ae (S3.below QR ly);have fd:Hid (w4.heap[w.heap.size]?=_):=(QR.block _ (ag W)).trans W;have K4:=ae (K3.to (KS.of_below (X:=XN) QR ly S3.lt));clear QR b0 b1 y S3 K3 W;obtain⟨y,b0,b1,-⟩:=S4.box.facts;go_wp2_with fail;refine(eu a0 S.n0 c0 a1 S.n1 c1 S.f1 nm w4 (by omega) (CC.tgt.below S4.bel ly)).mono ?_;rintro e M ⟨he,QR⟩;rw[et] at he;subst he;have S5:=ae (S4.below QR ly);have bt:Hid (M.heap[w.heap.size]?=T (Q #[J I 0,U ⟨#[]⟩,Y Z 0 0] 37 (0,0))):=(QR.block _ (ag fd)).trans fd;have K5:=ae (K4.to (KS.of_below (X:=XN) QR ly S4.lt));clear QR b0 b1 y S4 K4 fd A0 S0 kr;have A6:=ae ((q9 M).alloc ly (Q #[J I 4,U nm,Y Z 0 0] 37));have QM:Hid ((M.alloc (Q #[J I 4,U nm,Y Z 0 0] 37)).heap[M.heap.size]?=T (Q #[J I 4,U nm,Y Z 0 0] 37 (0,0))):=eT _ _;go_upto_region 13 with fail;generalize M.alloc (Q #[J I 4,U nm,Y Z 0 0] 37)=p at A6 QM ⊢;have S6:=ae (S5.below A6 ly);have aq:Hid (p.heap[w.heap.size]?=T (Q #[J I 0,U ⟨#[]⟩,Y Z 0 0] 37 (0,0))):=(A6.block _ (ag bt)).trans bt;have K6:=ae (K5.to (KS.of_below (X:=XN) A6 ly S5.lt));obtain⟨l,n7⟩:∃ l,l=M.heap.size:=⟨_,rfl⟩
 rw[<-n7] at QM ⊢;have hrbw:w.heap.size<=l:=by have:=K5.below.size;omega
 clear n7 A6 S5 bt K5;obtain⟨y,-,-,QO,-⟩:=S6.box.facts;obtain⟨rl,r0,r1,r2,-⟩:=aY QM;obtain⟨hg2B,hg2l,Ff,ld⟩:=aj S6.rmd b rfl;have la:=ae ld;have R6:=ae (by have h:=S6.rmd;rw[H] at h;exact h);have q1:p.cell? (N b (n*6+1) Z)=T (J I 0):=bR (by rw[H];exact R6) QH 1 (by omega) rfl;have q2:p.cell? (N b (n*6+1+1) Z)=T (U ⟨#[]⟩):=bR (by rw[H];exact R6) QH 2 (by omega) rfl;have q3:p.cell? (N b (n*6+1+2) Z)=T (Y Z 0 0):=bR (by rw[H];exact R6) QH 3 (by omega) rfl;have qf:∀ j,p.frozen? (N b j Z)=QB:=fun j=>by simp[World.frozen?,ld]
 have Fw:=qf (n*6+1);have Fm:=qf (n*6+1+1);have Fd:=qf (n*6+1+2);clear qf ld;have hIn:(n:Int)<(n:Int)+1:=by omega
 have P:b≠hb:=by intro e;have h:=la.out;rw[e] at h;exact absurd (ar h S6.box) (by decide)
 have g:b≠l:=by intro e;have h:=la.out;rw[e] at h;exact absurd (ar h QM) (by decide)
 refine wp_region_held_drew (S:=fun V=>V.cell? (N hb 2 Z)=T (Y (T (N b 0 Z)) (n+1) A)/\V.cell? (N l 0 Z)=T (J I 4)/\V.cell? (N l 1 Z)=T (U nm)/\V.cell? (N l 2 Z)=T (Y Z 0 0)) (by as_aux_lemma=>kernel_rfl) ⟨QO,r0,r1,r2⟩ (fun hS=>?_);have HS:=ae hS;clear hS
 iterate 8
  first | refine bB 0 (v:=?_) rfl rfl (by as_aux_lemma=>kernel_rfl) (fun _ _ _ h=>h) rfl ?_ HS ?_ | refine bB 4 (v:=?_) rfl rfl (by as_aux_lemma=>kernel_rfl) (fun _ _ _ h=>h) rfl ?_ HS ?_
  rotate_left
  ·(intro wz Fb;obtain⟨s0,s1,s2,s3⟩:=Fb;go_simp)
   (try with_reducible rfl)
  (try simp only[Act.put,nzL])
 have QP:=ae (S6.told H QH rfl 4 nm)
 have qr:Hid ((((p.setCell (N b (n*6+1) Z) (J I 4)).setCell (N b (n*6+1+1) Z) (U nm)).setCell (N b (n*6+1+2) Z) (Y Z 0 0)).drew.cell? (N hb 2 Z)=T (Y (T (N b 0 Z)) (n+1) A)/\(((p.setCell (N b (n*6+1) Z) (J I 4)).setCell (N b (n*6+1+1) Z) (U nm)).setCell (N b (n*6+1+2) Z) (Y Z 0 0)).drew.cell? (N l 0 Z)=T (J I 4)/\(((p.setCell (N b (n*6+1) Z) (J I 4)).setCell (N b (n*6+1+1) Z) (U nm)).setCell (N b (n*6+1+2) Z) (Y Z 0 0)).drew.cell? (N l 1 Z)=T (U nm)/\(((p.setCell (N b (n*6+1) Z) (J I 4)).setCell (N b (n*6+1+1) Z) (U nm)).setCell (N b (n*6+1+2) Z) (Y Z 0 0)).drew.cell? (N l 2 Z)=T (Y Z 0 0)) :=
  ⟨(cell_far _ _ _ _ P).trans ((cell_far _ _ _ _ P).trans ((cell_far _ _ _ _ P).trans QO)),(cell_far _ _ _ _ g).trans ((cell_far _ _ _ _ g).trans ((cell_far _ _ _ _ g).trans r0)),(cell_far _ _ _ _ g).trans ((cell_far _ _ _ _ g).trans ((cell_far _ _ _ _ g).trans r1)),(cell_far _ _ _ _ g).trans ((cell_far _ _ _ _ g).trans ((cell_far _ _ _ _ g).trans r2))⟩
 refine aR (i:=8) rfl (by as_aux_lemma=>kernel_rfl) (fun K hK=>?_);go_simp;refine hK _ _ qr ?_;clear hK K HS q1 q2 q3 Fw Fm Fd QO r0 r1 r2 rl
 (try simp only[Act.put])
 refine wpAnyH_done (by as_aux_lemma=>kernel_rfl) ?_ _;have D7:Hid (Below (((p.setCell (N b (n*6+1) Z) (J I 4)).setCell (N b (n*6+1+1) Z) (U nm)).setCell (N b (n*6+1+2) Z) (Y Z 0 0)).heap.size (((p.setCell (N b (n*6+1) Z) (J I 4)).setCell (N b (n*6+1+1) Z) (U nm)).setCell (N b (n*6+1+2) Z) (Y Z 0 0)) (((p.setCell (N b (n*6+1) Z) (J I 4)).setCell (N b (n*6+1+1) Z) (U nm)).setCell (N b (n*6+1+2) Z) (Y Z 0 0)).drew):=br.drew;have S7:=ae (QP.1.below D7 ly);have K7:=ae (K6.to (QP.2.1.to (KS.of_below (X:=XN) D7 ly QP.1.lt)));have th:=QP.2.2.1;have ur:=QP.2.2.2;have QK:Hid ((((p.setCell (N b (n*6+1) Z) (J I 4)).setCell (N b (n*6+1+1) Z) (U nm)).setCell (N b (n*6+1+2) Z) (Y Z 0 0)).drew.heap[w.heap.size]?=T (Q #[J I 0,U ⟨#[]⟩,Y Z 0 0] 37 (0,0))):=by have h0:=(QP.2.1.blk _ _ _ _ aq (by decide) (by decide) (by decide) fun h=>h).trans aq;exact h0
 have R:Hid ((((p.setCell (N b (n*6+1) Z) (J I 4)).setCell (N b (n*6+1+1) Z) (U nm)).setCell (N b (n*6+1+2) Z) (Y Z 0 0)).drew.heap[l]?=T (Q #[J I 4,U nm,Y Z 0 0] 37 (0,0))):=by have h0:=(QP.2.1.blk _ _ _ _ QM (by decide) (by decide) (by decide) fun h=>h).trans QM;exact h0
 have ph:=ae th;have n9:=ae ur;clear QP qr th ur aq QM K6 S6 R6 la D7;generalize (((p.setCell (N b (n*6+1) Z) (J I 4)).setCell (N b (n*6+1+1) Z) (U nm)).setCell (N b (n*6+1+2) Z) (Y Z 0 0)).drew=W7 at S7 K7 QK R ⊢;obtain⟨y,-,-,QO,-⟩:=S7.box.facts;obtain⟨hg2B',hg2l',cs7,At⟩:=aj S7.rmd b rfl;have q5:W7.cell? (N b (n*6+5) Z)=T (QC QB):=bR (by have h:=S7.rmd;rw[n9.out] at h ⊢;exact h) ph 5 (by omega) rfl;have Fj:W7.frozen? (N b (n*6+5) Z)=QB:=by simp[World.frozen?,At]
 have TD:=ae (S7.upd' n9 ph (j:=5) (by omega) (u:=QC QD) (m':=⟨nm,4,nm,[],Y Z 0 0,QD⟩) rfl (fun _=>⟨rfl,.inl ⟨rfl,rfl⟩⟩));have E:Hid ((W7.setCell (N b (n*6+5) Z) (QC QD)).heap[w.heap.size]?=T (Q #[J I 0,U ⟨#[]⟩,Y Z 0 0] 37 (0,0))):=(TD.2.1.blk _ _ _ _ QK (by decide) (by decide) (by decide) fun h=>h).trans QK;have D:Hid ((W7.setCell (N b (n*6+5) Z) (QC QD)).heap[l]?=T (Q #[J I 4,U nm,Y Z 0 0] 37 (0,0))):=(TD.2.1.blk _ _ _ _ R (by decide) (by decide) (by decide) fun h=>h).trans R;have QN:=ae TD.1;have K8:=ae (K7.to TD.2.1);clear At;go_upto_region 15 with fail;clear QO q5 Fj TD S7 K7 QK R;generalize W7.setCell (N b (n*6+5) Z) (QC QD)=s at QN K8 E D ⊢;obtain⟨ao,co,rfl⟩:=ew QN.ror;obtain⟨q,hq⟩:∃ q,q=made.length:=⟨_,rfl⟩
 have HQ:=ae hq;rw[<-hq] at Fh;clear hq;obtain⟨y,-,-,-,b3,-⟩:=QN.box.facts;rw[<-HQ.out] at b3;have A9:=ae ((q9 s).alloc ly (Q #[U nm] 9));have S9:=ae (QN.below A9 ly);have RO:=ae (by have h:=S9.ror;rw[<-HQ.out] at h;exact h);have Bk:w0.heap.size<=(s.alloc (Q #[U nm] 9)).heap.size:=S9.lt;have HG:Hid (∀ o:G,(s.alloc (Q #[U nm] 9)).grownBy o (Value.slice ao q co).ownBlock->o.heap[hb]?=(s.alloc (Q #[U nm] 9)).heap[hb]?/\o.heap[w.heap.size]?=(s.alloc (Q #[U nm] 9)).heap[w.heap.size]?/\o.heap[l]?=(s.alloc (Q #[U nm] 9)).heap[l]?):=fun o hg=>by
  have ex:∀ (i:Nat) (cs:Array QE) (t:TypeId) (fz:Nat × Nat),(s.alloc (Q #[U nm] 9)).heap[i]?=T (Obj.cells cs t fz)->t≠9->o.heap[i]?=(s.alloc (Q #[U nm] 9)).heap[i]?:=fun i cs t fz hi ht=>hg.block i (ag hi) fun e=>by obtain⟨_,_,Ff,hc⟩:=aj RO i e.symm;exact ht (ar hi hc)
  exact⟨ex _ _ _ _ S9.box (by decide),ex _ _ _ _ ((A9.block _ (ag E)).trans E) (by decide),ex _ _ _ _ ((A9.block _ (ag D)).trans D) (by decide)⟩
 have n8:Hid ((s.alloc (Q #[U nm] 9)).heap[w.heap.size]?=T (Q #[J I 0,U ⟨#[]⟩,Y Z 0 0] 37 (0,0))):=(A9.block _ (ag E)).trans E;have Fe:Hid ((s.alloc (Q #[U nm] 9)).heap[l]?=T (Q #[J I 4,U nm,Y Z 0 0] 37 (0,0))):=(A9.block _ (ag D)).trans D;have hbw:¬ hb=w.heap.size:=fun e=>by have h:=QN.box;unfold ShBox at h;rw[e] at h;exact absurd (ar h E) (by decide)
 have CD:¬ w.heap.size=hb:=fun e=>hbw e.symm;have Fl:¬ hb=l:=fun e=>by have h:=QN.box;unfold ShBox at h;rw[e] at h;exact absurd (ar h D) (by decide)
 have hbr':¬ l=hb:=fun e=>Fl e.symm
 go_wp2_with (first
  | (at_builtin;refine bu _ rfl (.tmp 100) (.tmp 102) 35 rfl w0.heap.size 9 i1 (U ⟨#[]⟩) 1 16 Tryz.underlying35 Fk Fn Fi Fo rfl (by decide) (Y ao q co) q (bZ (made.map (·.name))) (by simp[Act.eval]) RO.out (N s.heap.size 0 Z) 1 1 [U nm] (by simp[Act.eval]) rfl (lG s _ _) (by simp[Value.oneCell']) (by unfold maxLen;omega) (by omega) Bk ?_;intro v9 w9 r f QL;have O9:=ae r;have G9:=ae f;have Fp:=ae QL;have QJ:=ae (HG w9 f);obtain⟨g9,c9,cu9,rfl,Fc⟩:=r.2.resolve_left (fun h=>by omega);clear Fc r f QL;obtain⟨hbl9,-,-,-,f3,-,-,-,-,-,ff⟩:=(ShBox.blk S9.box QJ.1).facts;have ff3:=ff 3;obtain⟨rl,r0,r1,r2,rf⟩:=aY (QJ.2.1.trans n8);have rf0:=rf 0;have rf1:=rf 1;have rf2:=rf 2;obtain⟨pl,p0,p1,p2,pf⟩:=aY (QJ.2.2.trans Fe);clear ff rf pf)
  | fail)
 have n6:=ae (S9.ord (x:=⟨nm,2,0,⟨#[]⟩,0,[]⟩) (w':=w9) (v:=Y (T (N g9 0 Z)) (q+1) c9) (by rw[<-HQ.out];exact G9) (by rw[<-HQ.out];exact O9) (by rw[<-HQ.out];exact Fp));refine bp (v:=QG #[J I 4,U nm,Y Z 0 0]) (by simp[results,Tryz.results91,go_sem,r0,r1,r2]) rfl ?_;have ro:=(qh w9 (N hb 3 Z) (Y (T (N g9 0 Z)) (q+1) c9) w.heap.size CD).trans (QJ.2.1.trans n8);refine⟨Y (T (N b 0 Z)) (n+1) A,Y (T (N g9 0 Z)) (q+1) c9,rfl,?_,?_⟩
 ·rw[<-O.out]
  have x0:=n6.1;rw[LL] at x0;replace x0:=x0.setOff ro ⟨by decide,by decide,by decide,by decide⟩ B 0 (J I 4);have y0:=aA ro (j:=0) (J I 4);have x1:=x0.setOff y0 ⟨by decide,by decide,by decide,by decide⟩ B 1 (U nm);exact x1.setOff (aA y0 (j:=1) (U nm)) ⟨by decide,by decide,by decide,by decide⟩ B 2 (Y Z 0 0)
 ·have k0:=(K8.to (KS.of_below (X:=XN) A9 ly QN.lt)).to n6.2
  exact((k0.fresh ly B 0 _).fresh ly B 1 _).fresh ly B 2 _
end
section
variable {w0:G}{S:Spc}{a0 a1:Option Addr}{c0 c1 hb:Nat}{md or st:QE}{making:List ByteArray}{made:List Ent}{L:List SM}
theorem Bi (C:lA w0 S a0 a1)(w:G)(nm:ByteArray)(h:SI w0 hb (Y a0 S.n0 c0) (Y a1 S.n1 c1) w making made L md or st)(FF:L.length<=100000)(Fo:made.length<=100000)(h1:fI L nm=Z)(si:Nat)(h2:atI (nm0 S.f0) S.n0 nm=T si)(h3:atI (nm1 S.f1) S.n1 nm=Z):Calls Tryz.prog 91 #[.pointer (T (N hb 0 Z)),U nm] w fun e w'=>∃ FJ Fn,e=QF (QG #[J I 0,U (S.f0 si).text,Y Z 0 0])/\SI w0 hb (Y a0 S.n0 c0) (Y a1 S.n1 c1) w' making (made++[⟨nm,1,0,(S.f0 si).text,0,[]⟩]) ((L++[dl nm]).set L.length ⟨nm,0,(S.f0 si).text,[],Y Z 0 0,QD⟩) FJ Fn st/\KS w0.heap.size XN w w':=by
 obtain⟨im,Fg,Fe,FD,FA⟩:=eY lB;obtain⟨i1,Fs,Fv,Fp,Fx⟩:=eY gI;have A0:=ae ((q9 w).alloc ly (Q #[J I 0,U ⟨#[]⟩,Y Z 0 0] 37));have kr:Hid ((w.alloc (Q #[J I 0,U ⟨#[]⟩,Y Z 0 0] 37)).heap[w.heap.size]?=T (Q #[J I 0,U ⟨#[]⟩,Y Z 0 0] 37 (0,0))):=eT _ _;have S0:=ae (h.below A0 ly);have E:w0.heap.size<=w.heap.size:=h.lt;have e1:da (fI L nm)=-1:=by rw[h1];rfl
 obtain⟨am,cm,rfl⟩:=ew h.rmd;obtain⟨n,hn⟩:∃ n,n=L.length:=⟨_,rfl⟩
 have P:=ae hn;have CC:=ae C;have hsm:=C.ok.small;have hn1:n<=100000:=by omega
 clear h h1 hn C;have es:da (atI (nm0 S.f0) S.n0 nm)=(si:Int):=by rw[h2];rfl
 have et:da (atI (nm1 S.f1) S.n1 nm)=-1:=by rw[h3];rfl
 have Fz:=(bJ h2).1;obtain⟨sb,so,DE,E9⟩:∃ sb so,a0=T (N sb so Z)/\RowSource w0 sb so S.n0 S.f0:=by
  rcases CC.src with h | ⟨b,off,e,hr⟩
  ·omega
  ·exact⟨b,off,e,hr⟩
 have n8:=ae E9;have Fw:=ae DE;obtain⟨tx,ld⟩:∃ tx,tx=(S.f0 si).text:=⟨_,rfl⟩
 have Fl:=ae ld;rw[<-ld];clear h2 h3 E9 ld DE;go_enter Tryz.func91,Tryz.ntmps91;go_wp2_with fail;generalize w.alloc (Q #[J I 0,U ⟨#[]⟩,Y Z 0 0] 37)=B at A0 kr S0 ⊢;refine(gG B nm S0 FF).mono ?_;rintro e w1 ⟨rfl,n9⟩;rw[n9,e1];clear n9 e1;obtain⟨r,-,-,QN,-⟩:=S0.box.facts;rw[<-P.out] at QN;have A1:=ae ((q9 B).alloc ly (Q #[U nm,J I 0,U ⟨#[]⟩,Y Z 0 0,Y Z 0 0,QC QB] 161));have SA:=ae (S0.below A1 ly);have RM:=ae (by have h:=SA.rmd;rw[<-P.out] at h;exact h);have FC:(B.alloc (Q #[U nm,J I 0,U ⟨#[]⟩,Y Z 0 0,Y Z 0 0,QC QB] 161)).heap.size=B.heap.size+1:=by simp
 have HG:Hid (∀ p:G,(B.alloc (Q #[U nm,J I 0,U ⟨#[]⟩,Y Z 0 0,Y Z 0 0,QC QB] 161)).grownBy p (Value.slice am n cm).ownBlock->p.heap[hb]?=(B.alloc (Q #[U nm,J I 0,U ⟨#[]⟩,Y Z 0 0,Y Z 0 0,QC QB] 161)).heap[hb]?):=fun p hg=>hg.block hb (by omega) fun e=>by obtain⟨_,_,cs,hc⟩:=aj RM hb e.symm;exact absurd (ar SA.box hc) (by decide)
 have Fc:w0.heap.size<=(B.alloc (Q #[U nm,J I 0,U ⟨#[]⟩,Y Z 0 0,Y Z 0 0,QC QB] 161)).heap.size:=SA.lt;have hz1':B.heap.size<(B.alloc (Q #[U nm,J I 0,U ⟨#[]⟩,Y Z 0 0,Y Z 0 0,QC QB] 161)).heap.size:=by omega
 clear FC
 go_upto_region 7 with (first
  | (at_builtin;refine bu _ rfl (.tmp 46) (.tmp 49) 87 rfl w0.heap.size 161 im (QG #[U ⟨#[]⟩,J I 0,U ⟨#[]⟩,Y Z 0 0,Y Z 0 0,QC QB]) 6 96 Tryz.underlying87 Fg Fe FD FA rfl (by decide) (Y am n cm) n (L.flatMap smV) (by simp[Act.eval]) RM.out (N B.heap.size 0 Z) 1 1 [U nm,J I 0,U ⟨#[]⟩,Y Z 0 0,Y Z 0 0,QC QB] (by simp[Act.eval]) rfl (lF B _ _ _ _ _ _ _) (by simp[Value.oneCell']) (by unfold maxLen;omega) (by omega) Fc ?_;intro v2 p y g QK;have O2:=ae y;have G2:=ae g;have Bk:=ae (HG p g);obtain⟨f,D,cu2,rfl,FG⟩:=y.2.resolve_left (fun h=>by omega);clear FG y g QK;obtain⟨Fd,-,-,f2,-,-,-,-,-,-,ff⟩:=(ShBox.blk SA.box Bk).facts;have Ff:=ff 2;clear ff)
  | fail)
 have SX:=ae (SA.addL (m:=dl nm) (w':=p) (v:=Y (T (N f 0 Z)) (n+1) D) (by rw[<-P.out];exact G2) (by rw[<-P.out];exact O2) rfl);have S3:=ae SX.1;have K3:Hid (KS w0.heap.size XN w (p.setCell (N hb 2 Z) (Y (T (N f 0 Z)) (n+1) D))):=((KS.of_below (X:=XN) A0 ly E).to (KS.of_below A1 ly S0.lt)).to SX.2;have QH:Hid ((p.setCell (N hb 2 Z) (Y (T (N f 0 Z)) (n+1) D)).heap[w.heap.size]?=T (Q #[J I 0,U ⟨#[]⟩,Y Z 0 0] 37 (0,0))):=by have h0:=(A1.block _ (ag kr)).trans kr;exact(SX.2.blk _ _ _ _ h0 (by decide) (by decide) (by decide) fun h=>h).trans h0
 have QO:(L++[dl nm]).length=n+1:=by rw[eI,AS,<-P.out]
 have QJ:Hid ((L++[dl nm])[n]?=T (dl nm)):=by rw[P.out];show _=_;rw[BS ly,J2];rfl
 clear SX f2 Ff Fd QN r RM SA A1 HG O2 G2 Bk;generalize p.setCell (N hb 2 Z) (Y (T (N f 0 Z)) (n+1) D)=W3 at S3 K3 QH ⊢;obtain⟨r,b0,b1,-⟩:=S3.box.facts;go_wp2_with fail;refine(dU a0 S.n0 c0 a1 S.n1 c1 S.f0 nm W3 (by omega) (CC.src.below S3.bel ly)).mono ?_;rintro e w4 ⟨he,QP⟩;rw[es] at he;subst he;have S4:=ae (S3.below QP ly);have mv:Hid (w4.heap[w.heap.size]?=_):=(QP.block _ (ag QH)).trans QH;have K4:=ae (K3.to (KS.of_below (X:=XN) QP ly S3.lt));clear QP b0 b1 r S3 K3 QH;obtain⟨r,b0,b1,-⟩:=S4.box.facts;go_wp2_with fail;refine(eu a0 S.n0 c0 a1 S.n1 c1 S.f1 nm w4 (by omega) (CC.tgt.below S4.bel ly)).mono ?_;rintro e A ⟨he,QP⟩;rw[et] at he;subst he;have S5:=ae (S4.below QP ly);have ex:Hid (A.heap[w.heap.size]?=T (Q #[J I 0,U ⟨#[]⟩,Y Z 0 0] 37 (0,0))):=(QP.block _ (ag mv)).trans mv;have K5:=ae (K4.to (KS.of_below (X:=XN) QP ly S4.lt));clear QP b0 b1 r S4 K4 mv A0 S0 kr;have A5:=ae ((q9 A).alloc ly (Q #[J I 4,U nm,Y Z 0 0] 37));have fd:=ae (S5.below A5 ly);have hI0:(0:Int)<=(si:Int):=by omega
 have hI1:(si:Int)<(S.n0:Int):=by omega
 have q0:(A.alloc (Q #[J I 4,U nm,Y Z 0 0] 37)).cell? (N hb 0 Z)=T (Y (T (N sb so Z)) S.n0 c0):=by have h:=fd.box.facts.2.1;rw[Fw.out] at h;exact h
 have q1:(A.alloc (Q #[J I 4,U nm,Y Z 0 0] 37)).cell? (N sb (so+si*2+1) Z)=T (U tx):=by rw[Fl.out];exact((n8.below fd.bel ly).2 si Fz).2
 have r:=S5.box.facts.1;have ql:sb<A.heap.size:=lj n8.1 S5.lt;go_upto_region 13 with fail;clear q0 q1 ql r A5 fd;have A6:=ae ((q9 A).alloc ly (Q #[J I 0,U tx,Y Z 0 0] 37));have R:Hid ((A.alloc (Q #[J I 0,U tx,Y Z 0 0] 37)).heap[A.heap.size]?=T (Q #[J I 0,U tx,Y Z 0 0] 37 (0,0))):=eT _ _;generalize A.alloc (Q #[J I 0,U tx,Y Z 0 0] 37)=s at A6 R ⊢;have S6:=ae (S5.below A6 ly);have bt:Hid (s.heap[w.heap.size]?=T (Q #[J I 0,U ⟨#[]⟩,Y Z 0 0] 37 (0,0))):=(A6.block _ (ag ex)).trans ex;have K6:=ae (K5.to (KS.of_below (X:=XN) A6 ly S5.lt));obtain⟨o,qr⟩:∃ o,o=A.heap.size:=⟨_,rfl⟩
 rw[<-qr] at R ⊢;have hrbw:w.heap.size<=o:=by have:=K5.below.size;omega
 clear qr A6 S5 ex K5;obtain⟨r,-,-,QN,-⟩:=S6.box.facts;obtain⟨rl,r0,r1,r2,-⟩:=aY R;obtain⟨hg2B,hg2l,Fm,n7⟩:=aj S6.rmd f rfl;have n6:=ae n7;have R6:=ae (by have h:=S6.rmd;rw[QO] at h;exact h);have q1:s.cell? (N f (n*6+1) Z)=T (J I 0):=bR (by rw[QO];exact R6) QJ 1 (by omega) rfl;have q2:s.cell? (N f (n*6+1+1) Z)=T (U ⟨#[]⟩):=bR (by rw[QO];exact R6) QJ 2 (by omega) rfl;have q3:s.cell? (N f (n*6+1+2) Z)=T (Y Z 0 0):=bR (by rw[QO];exact R6) QJ 3 (by omega) rfl;have qf:∀ j,s.frozen? (N f j Z)=QB:=fun j=>by simp[World.frozen?,n7]
 have FH:=qf (n*6+1);have Fu:=qf (n*6+1+1);have Fj:=qf (n*6+1+2);clear qf n7;have hIn:(n:Int)<(n:Int)+1:=by omega
 have QM:f≠hb:=by intro e;have h:=n6.out;rw[e] at h;exact absurd (ar h S6.box) (by decide)
 have l:f≠o:=by intro e;have h:=n6.out;rw[e] at h;exact absurd (ar h R) (by decide)
 refine wp_region_held_drew (S:=fun V=>V.cell? (N hb 2 Z)=T (Y (T (N f 0 Z)) (n+1) D)/\V.cell? (N o 0 Z)=T (J I 0)/\V.cell? (N o 1 Z)=T (U tx)/\V.cell? (N o 2 Z)=T (Y Z 0 0)) (by as_aux_lemma=>kernel_rfl) ⟨QN,r0,r1,r2⟩ (fun hS=>?_);have HS:=ae hS;clear hS
 iterate 8
  first | refine bB 0 (v:=?_) rfl rfl (by as_aux_lemma=>kernel_rfl) (fun _ _ _ h=>h) rfl ?_ HS ?_ | refine bB 4 (v:=?_) rfl rfl (by as_aux_lemma=>kernel_rfl) (fun _ _ _ h=>h) rfl ?_ HS ?_
  rotate_left
  ·(intro wz Fh;obtain⟨s0,s1,s2,s3⟩:=Fh;go_simp)
   (try with_reducible rfl)
  (try simp only[Act.put,nzL])
 have M:=ae (S6.told QO QJ rfl 0 tx)
 have ur:Hid ((((s.setCell (N f (n*6+1) Z) (J I 0)).setCell (N f (n*6+1+1) Z) (U tx)).setCell (N f (n*6+1+2) Z) (Y Z 0 0)).drew.cell? (N hb 2 Z)=T (Y (T (N f 0 Z)) (n+1) D)/\(((s.setCell (N f (n*6+1) Z) (J I 0)).setCell (N f (n*6+1+1) Z) (U tx)).setCell (N f (n*6+1+2) Z) (Y Z 0 0)).drew.cell? (N o 0 Z)=T (J I 0)/\(((s.setCell (N f (n*6+1) Z) (J I 0)).setCell (N f (n*6+1+1) Z) (U tx)).setCell (N f (n*6+1+2) Z) (Y Z 0 0)).drew.cell? (N o 1 Z)=T (U tx)/\(((s.setCell (N f (n*6+1) Z) (J I 0)).setCell (N f (n*6+1+1) Z) (U tx)).setCell (N f (n*6+1+2) Z) (Y Z 0 0)).drew.cell? (N o 2 Z)=T (Y Z 0 0)) :=
  ⟨(cell_far _ _ _ _ QM).trans ((cell_far _ _ _ _ QM).trans ((cell_far _ _ _ _ QM).trans QN)),(cell_far _ _ _ _ l).trans ((cell_far _ _ _ _ l).trans ((cell_far _ _ _ _ l).trans r0)),(cell_far _ _ _ _ l).trans ((cell_far _ _ _ _ l).trans ((cell_far _ _ _ _ l).trans r1)),(cell_far _ _ _ _ l).trans ((cell_far _ _ _ _ l).trans ((cell_far _ _ _ _ l).trans r2))⟩
 refine aR (i:=8) rfl (by as_aux_lemma=>kernel_rfl) (fun K hK=>?_);go_simp;refine hK _ _ ur ?_;clear hK K HS q1 q2 q3 FH Fu Fj QN r0 r1 r2 rl
 (try simp only[Act.put])
 refine wpAnyH_done (by as_aux_lemma=>kernel_rfl) ?_ _;have D7:Hid (Below (((s.setCell (N f (n*6+1) Z) (J I 0)).setCell (N f (n*6+1+1) Z) (U tx)).setCell (N f (n*6+1+2) Z) (Y Z 0 0)).heap.size (((s.setCell (N f (n*6+1) Z) (J I 0)).setCell (N f (n*6+1+1) Z) (U tx)).setCell (N f (n*6+1+2) Z) (Y Z 0 0)) (((s.setCell (N f (n*6+1) Z) (J I 0)).setCell (N f (n*6+1+1) Z) (U tx)).setCell (N f (n*6+1+2) Z) (Y Z 0 0)).drew):=br.drew;have S7:=ae (M.1.below D7 ly);have K7:=ae (K6.to (M.2.1.to (KS.of_below (X:=XN) D7 ly M.1.lt)));have CD:=M.2.2.1;have DQ:=M.2.2.2;have W:Hid ((((s.setCell (N f (n*6+1) Z) (J I 0)).setCell (N f (n*6+1+1) Z) (U tx)).setCell (N f (n*6+1+2) Z) (Y Z 0 0)).drew.heap[w.heap.size]?=T (Q #[J I 0,U ⟨#[]⟩,Y Z 0 0] 37 (0,0))):=by have h0:=(M.2.1.blk _ _ _ _ bt (by decide) (by decide) (by decide) fun h=>h).trans bt;exact h0
 have QL:Hid ((((s.setCell (N f (n*6+1) Z) (J I 0)).setCell (N f (n*6+1+1) Z) (U tx)).setCell (N f (n*6+1+2) Z) (Y Z 0 0)).drew.heap[o]?=T (Q #[J I 0,U tx,Y Z 0 0] 37 (0,0))):=by have h0:=(M.2.1.blk _ _ _ _ R (by decide) (by decide) (by decide) fun h=>h).trans R;exact h0
 have th:=ae CD;have sm:=ae DQ;clear M ur CD DQ bt R K6 S6 R6 n6 D7;generalize (((s.setCell (N f (n*6+1) Z) (J I 0)).setCell (N f (n*6+1+1) Z) (U tx)).setCell (N f (n*6+1+2) Z) (Y Z 0 0)).drew=W7 at S7 K7 W QL ⊢;obtain⟨r,-,-,QN,-⟩:=S7.box.facts;obtain⟨hg2B',hg2l',cs7,DS⟩:=aj S7.rmd f rfl;have q5:W7.cell? (N f (n*6+5) Z)=T (QC QB):=bR (by have h:=S7.rmd;rw[sm.out] at h ⊢;exact h) th 5 (by omega) rfl;have Fq:W7.frozen? (N f (n*6+5) Z)=QB:=by simp[World.frozen?,DS]
 have TD:=ae (S7.upd' sm th (j:=5) (by omega) (u:=QC QD) (m':=⟨nm,0,tx,[],Y Z 0 0,QD⟩) rfl (fun _=>⟨rfl,.inl ⟨rfl,rfl⟩⟩));have H:Hid ((W7.setCell (N f (n*6+5) Z) (QC QD)).heap[w.heap.size]?=T (Q #[J I 0,U ⟨#[]⟩,Y Z 0 0] 37 (0,0))):=(TD.2.1.blk _ _ _ _ W (by decide) (by decide) (by decide) fun h=>h).trans W;have QR:Hid ((W7.setCell (N f (n*6+5) Z) (QC QD)).heap[o]?=T (Q #[J I 0,U tx,Y Z 0 0] 37 (0,0))):=(TD.2.1.blk _ _ _ _ QL (by decide) (by decide) (by decide) fun h=>h).trans QL;have O:=ae TD.1;have K8:=ae (K7.to TD.2.1);clear DS;go_upto_region 15 with fail;clear QN q5 Fq TD S7 K7 W QL;generalize W7.setCell (N f (n*6+5) Z) (QC QD)=z at O K8 H QR ⊢;obtain⟨ao,co,rfl⟩:=ew O.ror;obtain⟨q,hq⟩:∃ q,q=made.length:=⟨_,rfl⟩
 have HQ:=ae hq;rw[<-hq] at Fo;clear hq;obtain⟨r,-,-,-,b3,-⟩:=O.box.facts;rw[<-HQ.out] at b3;have A9:=ae ((q9 z).alloc ly (Q #[U nm] 9));have S9:=ae (O.below A9 ly);have RO:=ae (by have h:=S9.ror;rw[<-HQ.out] at h;exact h);have Fa:w0.heap.size<=(z.alloc (Q #[U nm] 9)).heap.size:=S9.lt;have HG:Hid (∀ p:G,(z.alloc (Q #[U nm] 9)).grownBy p (Value.slice ao q co).ownBlock->p.heap[hb]?=(z.alloc (Q #[U nm] 9)).heap[hb]?/\p.heap[w.heap.size]?=(z.alloc (Q #[U nm] 9)).heap[w.heap.size]?/\p.heap[o]?=(z.alloc (Q #[U nm] 9)).heap[o]?):=fun p hg=>by
  have la:∀ (i:Nat) (cs:Array QE) (t:TypeId) (fz:Nat × Nat),(z.alloc (Q #[U nm] 9)).heap[i]?=T (Obj.cells cs t fz)->t≠9->p.heap[i]?=(z.alloc (Q #[U nm] 9)).heap[i]?:=fun i cs t fz hi ht=>hg.block i (ag hi) fun e=>by obtain⟨_,_,Fm,hc⟩:=aj RO i e.symm;exact ht (ar hi hc)
  exact⟨la _ _ _ _ S9.box (by decide),la _ _ _ _ ((A9.block _ (ag H)).trans H) (by decide),la _ _ _ _ ((A9.block _ (ag QR)).trans QR) (by decide)⟩
 have ro:Hid ((z.alloc (Q #[U nm] 9)).heap[w.heap.size]?=T (Q #[J I 0,U ⟨#[]⟩,Y Z 0 0] 37 (0,0))):=(A9.block _ (ag H)).trans H;have Fk:Hid ((z.alloc (Q #[U nm] 9)).heap[o]?=T (Q #[J I 0,U tx,Y Z 0 0] 37 (0,0))):=(A9.block _ (ag QR)).trans QR;have hbw:¬ hb=w.heap.size:=fun e=>by have h:=O.box;unfold ShBox at h;rw[e] at h;exact absurd (ar h H) (by decide)
 have Fb:¬ w.heap.size=hb:=fun e=>hbw e.symm;have Ft:¬ hb=o:=fun e=>by have h:=O.box;unfold ShBox at h;rw[e] at h;exact absurd (ar h QR) (by decide)
 have hbr':¬ o=hb:=fun e=>Ft e.symm
 go_wp2_with (first
  | (at_builtin;refine bu _ rfl (.tmp 100) (.tmp 102) 35 rfl w0.heap.size 9 i1 (U ⟨#[]⟩) 1 16 Tryz.underlying35 Fs Fv Fp Fx rfl (by decide) (Y ao q co) q (bZ (made.map (·.name))) (by simp[Act.eval]) RO.out (N z.heap.size 0 Z) 1 1 [U nm] (by simp[Act.eval]) rfl (lG z _ _) (by simp[Value.oneCell']) (by unfold maxLen;omega) (by omega) Fa ?_;intro v9 w9 y g QK;have O9:=ae y;have G9:=ae g;have Fy:=ae QK;have aq:=ae (HG w9 g);obtain⟨g9,c9,cu9,rfl,Fi⟩:=y.2.resolve_left (fun h=>by omega);clear Fi y g QK;obtain⟨hbl9,-,-,-,f3,-,-,-,-,-,ff⟩:=(ShBox.blk S9.box aq.1).facts;have ff3:=ff 3;obtain⟨rl,r0,r1,r2,rf⟩:=aY (aq.2.1.trans ro);have rf0:=rf 0;have rf1:=rf 1;have rf2:=rf 2;obtain⟨pl,p0,p1,p2,pf⟩:=aY (aq.2.2.trans Fk);clear ff rf pf)
  | fail)
 have ph:=ae (S9.ord (x:=⟨nm,1,0,tx,0,[]⟩) (w':=w9) (v:=Y (T (N g9 0 Z)) (q+1) c9) (by rw[<-HQ.out];exact G9) (by rw[<-HQ.out];exact O9) (by rw[<-HQ.out];exact Fy));refine bp (v:=QG #[J I 0,U tx,Y Z 0 0]) (by simp[results,Tryz.results91,go_sem,r0,r1,r2]) rfl ?_;have At:=(qh w9 (N hb 3 Z) (Y (T (N g9 0 Z)) (q+1) c9) w.heap.size Fb).trans (aq.2.1.trans ro);refine⟨Y (T (N f 0 Z)) (n+1) D,Y (T (N g9 0 Z)) (q+1) c9,rfl,?_,?_⟩
 ·rw[<-P.out]
  have x0:=ph.1;rw[LL] at x0;replace x0:=x0.setOff At ⟨by decide,by decide,by decide,by decide⟩ E 0 (J I 0);have y0:=aA At (j:=0) (J I 0);have x1:=x0.setOff y0 ⟨by decide,by decide,by decide,by decide⟩ E 1 (U tx);exact x1.setOff (aA y0 (j:=1) (U tx)) ⟨by decide,by decide,by decide,by decide⟩ E 2 (Y Z 0 0)
 ·have k0:=(K8.to (KS.of_below (X:=XN) A9 ly O.lt)).to ph.2
  exact((k0.fresh ly E 0 _).fresh ly E 1 _).fresh ly E 2 _
end
section
variable {w0:G}{S:Spc}{a0 a1:Option Addr}{c0 c1 hb:Nat}{md or st:QE}{making:List ByteArray}{made:List Ent}{L:List SM}
theorem ze (C:lA w0 S a0 a1)(w:G)(nm:ByteArray)(h:SI w0 hb (Y a0 S.n0 c0) (Y a1 S.n1 c1) w making made L md or st)(ur:L.length<=100000)(K:making.length=60)(h1:fI L nm=Z)(hi:atL making nm=Z)(tg:Nat)(h3:atI (nm1 S.f1) S.n1 nm=T tg):Calls Tryz.prog 91 #[.pointer (T (N hb 0 Z)),U nm] w fun e w'=>jo w0 hb (Y a0 S.n0 c0) (Y a1 S.n1 c1) making L w e w' (.inr (.inr nm)):=by
 obtain⟨im,ph,n7,th,qr⟩:=eY lB;obtain⟨i1,hi1,hy0,hy1,hy2⟩:=eY gI;have V:=ae ((q9 w).alloc ly (Q #[J I 0,U ⟨#[]⟩,Y Z 0 0] 37));have kr:Hid ((w.alloc (Q #[J I 0,U ⟨#[]⟩,Y Z 0 0] 37)).heap[w.heap.size]?=T (Q #[J I 0,U ⟨#[]⟩,Y Z 0 0] 37 (0,0))):=eT _ _;have r:=ae (h.below V ly);have D:w0.heap.size<=w.heap.size:=h.lt;have e1:da (fI L nm)=-1:=by rw[h1];rfl
 obtain⟨am,cm,rfl⟩:=ew h.rmd;obtain⟨n,hn⟩:∃ n,n=L.length:=⟨_,rfl⟩
 have QR:=ae hn;have CC:=ae C;have hsm:=C.ok.small;have hn1:n<=100000:=by omega
 clear h h1 hn C;obtain⟨es0,es⟩:∃ z,da (atI (nm0 S.f0) S.n0 nm)=z:=⟨_,rfl⟩
 have et:da (atI (nm1 S.f1) S.n1 nm)=(tg:Int):=by rw[h3];rfl
 have QM:∀ (j:Nat) (y:ByteArray),making[j]?=T y->(y.toList == nm.toList)=QB:=fun j y QL=>by unfold atL at hi;rw[JU] at hi;exact hi y (IE QL)
 have Bk:=ae QM;obtain⟨q,QN⟩:∃ q,q=making.length:=⟨_,rfl⟩
 have A:=ae QN;have hT0:(0:Int)<=(tg:Int):=by omega
 have hT1:=(bJ h3).1;rw[<-QN] at K;obtain⟨ast,cst,rfl⟩:=ew r.rst;clear h3 hi QM QN;have QK:q=60:=by omega
 clear K;go_enter Tryz.func91,Tryz.ntmps91;go_wp2_with fail;generalize w.alloc (Q #[J I 0,U ⟨#[]⟩,Y Z 0 0] 37)=b at V kr r ⊢;refine(gG b nm r ur).mono ?_;rintro e w1 ⟨rfl,fd⟩;rw[fd,e1];clear fd e1;obtain⟨f,-,-,b2,-⟩:=r.box.facts;rw[<-QR.out] at b2;have QH:=ae ((q9 b).alloc ly (Q #[U nm,J I 0,U ⟨#[]⟩,Y Z 0 0,Y Z 0 0,QC QB] 161));have H:=ae (r.below QH ly);have RM:=ae (by have h:=H.rmd;rw[<-QR.out] at h;exact h);have ro:(b.alloc (Q #[U nm,J I 0,U ⟨#[]⟩,Y Z 0 0,Y Z 0 0,QC QB] 161)).heap.size=b.heap.size+1:=by simp
 have HG:Hid (∀ p:G,(b.alloc (Q #[U nm,J I 0,U ⟨#[]⟩,Y Z 0 0,Y Z 0 0,QC QB] 161)).grownBy p (Value.slice am n cm).ownBlock->p.heap[hb]?=(b.alloc (Q #[U nm,J I 0,U ⟨#[]⟩,Y Z 0 0,Y Z 0 0,QC QB] 161)).heap[hb]?):=fun p hg=>hg.block hb (by omega) fun e=>by obtain⟨_,_,R,o⟩:=aj RM hb e.symm;exact absurd (ar H.box o) (by decide)
 have n6:w0.heap.size<=(b.alloc (Q #[U nm,J I 0,U ⟨#[]⟩,Y Z 0 0,Y Z 0 0,QC QB] 161)).heap.size:=H.lt;have hz1':b.heap.size<(b.alloc (Q #[U nm,J I 0,U ⟨#[]⟩,Y Z 0 0,Y Z 0 0,QC QB] 161)).heap.size:=by omega
 clear ro
 go_upto_region 7 with (first
  | (at_builtin;refine bu _ rfl (.tmp 46) (.tmp 49) 87 rfl w0.heap.size 161 im (QG #[U ⟨#[]⟩,J I 0,U ⟨#[]⟩,Y Z 0 0,Y Z 0 0,QC QB]) 6 96 Tryz.underlying87 ph n7 th qr rfl (by decide) (Y am n cm) n (L.flatMap smV) (by simp[Act.eval]) RM.out (N b.heap.size 0 Z) 1 1 [U nm,J I 0,U ⟨#[]⟩,Y Z 0 0,Y Z 0 0,QC QB] (by simp[Act.eval]) rfl (lF b _ _ _ _ _ _ _) (by simp[Value.oneCell']) (by unfold maxLen;omega) (by omega) n6 ?_;intro v2 p u g sm;have O2:=ae u;have G2:=ae g;have ld:=ae (HG p g);obtain⟨QJ,E,cu2,rfl,At⟩:=u.2.resolve_left (fun h=>by omega);clear At u g sm;obtain⟨mv,-,-,f2,-,-,-,-,-,-,ff⟩:=(ShBox.blk H.box ld).facts;have n9:=ff 2;clear ff)
  | fail)
 have W:=ae (H.addL (m:=dl nm) (w':=p) (v:=Y (T (N QJ 0 Z)) (n+1) E) (by rw[<-QR.out];exact G2) (by rw[<-QR.out];exact O2) rfl);have QO:=ae W.1;have K3:Hid (KS w0.heap.size XN w (p.setCell (N hb 2 Z) (Y (T (N QJ 0 Z)) (n+1) E))):=((KS.of_below (X:=XN) V ly D).to (KS.of_below QH ly r.lt)).to W.2;have B:Hid ((p.setCell (N hb 2 Z) (Y (T (N QJ 0 Z)) (n+1) E)).heap[w.heap.size]?=T (Q #[J I 0,U ⟨#[]⟩,Y Z 0 0] 37 (0,0))):=by have h0:=(QH.block _ (ag kr)).trans kr;exact(W.2.blk _ _ _ _ h0 (by decide) (by decide) (by decide) fun h=>h).trans h0
 have hL1:(L++[dl nm]).length=n+1:=by rw[eI,AS,<-QR.out]
 have hLk:Hid ((L++[dl nm])[n]?=T (dl nm)):=by rw[QR.out];show _=_;rw[BS ly,J2];rfl
 clear W f2 n9 mv b2 f RM H QH HG O2 G2 ld;generalize p.setCell (N hb 2 Z) (Y (T (N QJ 0 Z)) (n+1) E)=W3 at QO K3 B ⊢;obtain⟨f,b0,b1,-⟩:=QO.box.facts;go_wp2_with fail;refine(dU a0 S.n0 c0 a1 S.n1 c1 S.f0 nm W3 (by omega) (CC.src.below QO.bel ly)).mono ?_;rintro e w4 ⟨P,l⟩;rw[es] at P;subst P;have M:=ae (QO.below l ly);have O:Hid (w4.heap[w.heap.size]?=_):=(l.block _ (ag B)).trans B;have K4:=ae (K3.to (KS.of_below (X:=XN) l ly QO.lt));clear l b0 b1 f QO K3 B;obtain⟨f,b0,b1,-⟩:=M.box.facts;go_wp2_with fail;refine(eu a0 S.n0 c0 a1 S.n1 c1 S.f1 nm w4 (by omega) (CC.tgt.below M.bel ly)).mono ?_;rintro e w5 ⟨P,l⟩;rw[et] at P;subst P;have s:=ae (M.below l ly);have bt:Hid (w5.heap[w.heap.size]?=T (Q #[J I 0,U ⟨#[]⟩,Y Z 0 0] 37 (0,0))):=(l.block _ (ag O)).trans O;have K5:=ae (K4.to (KS.of_below (X:=XN) l ly M.lt));clear l b0 b1 f M K4 O V r kr;obtain⟨f,-,-,-,-,b4,b5,b6,b7,b8,QP⟩:=s.box.facts;have bf4:=QP 4;have bf5:=QP 5;have bf6:=QP 6;have bf7:=QP 7;have bf8:=QP 8;rw[<-A.out] at b4;clear QP;go_wp2_with fail;go_loop [9] (fun i=>∃ j:Nat,j<=q/\i=J I j) (fun i=>q - (intOf i).toNat);case atStart=>exact⟨0,by omega,rfl⟩
 case round =>
 obtain⟨j,hj,rfl⟩:=hrel;by_cases hlt:j<q
 ·obtain⟨y,QL⟩:∃ y,making[j]?=T y:=⟨_,gq (by have:=A.out;omega)⟩
  obtain⟨gs,R,cus,ev,-⟩:=s.rst.2.resolve_left (fun h=>by have:=A.out;omega);rw[<-A.out] at ev;cases ev
  have dj:w5.cell? (N gs j Z)=T (U y):=oC s.rst QL;have hjm:(j:Int)<(q:Int):=by omega
  have n8:=ae (Bk j y QL);clear QL;have hne:=n8.out;go_wp2;exact⟨⟨j+1,by omega,by go_num⟩,by simp[intOf];omega⟩
 obtain rfl:j=q:=by omega
 ·subst QK
  have hbw:¬ hb=w.heap.size:=fun e=>by have h:=s.box;unfold ShBox at h;rw[e] at h;exact absurd (ar h bt) (by decide)
  have hbw':¬ w.heap.size=hb:=fun e=>hbw e.symm;obtain⟨rl,r0,r1,r2,rf⟩:=aY bt;have rf0:=rf 0;have rf1:=rf 1;have rf2:=rf 2;clear rf;go_wp2_with fail;refine bp (v:=QG #[J I 7,U nm,Y Z 0 0]) (by simp[results,Tryz.results91,go_sem,r0,r1,r2]) rfl ?_;have ex:=aA s.box (j:=8) (QC QD);have aq:=aA ex (j:=5) (J I 7);have la:=aA aq (j:=6) (U nm);have CD:=aA la (j:=7) (Y Z 0 0);have x:w0.heap.size<=hb:=s.hbB;have k8:=(((K5.to (KS.setCell (X:=XN) _ x (.inr fun R t fz o=>.inr (.inr (ar o s.box))) (QC QD) (j:=8))).to (KS.setCell (X:=XN) _ x (.inr fun R t fz o=>.inr (.inr (ar o ex))) (J I 7) (j:=5))).to (KS.setCell (X:=XN) _ x (.inr fun R t fz o=>.inr (.inr (ar o aq))) (U nm) (j:=6))).to (KS.setCell (X:=XN) _ x (.inr fun R t fz o=>.inr (.inr (ar o la))) (Y Z 0 0) (j:=7));refine⟨rfl,⟨_,_,_,_,_,(qh _ _ _ _ hbw).trans ((qh _ _ _ _ hbw).trans ((qh _ _ _ _ hbw).trans CD)),⟨rfl,.inl ⟨rfl,rfl⟩⟩⟩,?_⟩;exact((k8.fresh ly D 0 _).fresh ly D 1 _).fresh ly D 2 _
end
theorem EO {z:Int}(h0:0<=z)(h1:z<=1048576):IntKind.i64.wrap z=z:=by rw[kP];omega
theorem Ep {w w':G}{B n:Nat}{v:QE}{b:List QE}(h:w.ownsRow B 164 3 v n b)(f:KS B XN w w'):w'.ownsRow B 164 3 v n b:=de h fun k e=>by obtain⟨_,_,cs,g⟩:=aj h k e;exact f.blk _ _ _ _ g (by decide) (by decide) (by decide) fun h=>h
theorem LExt.add (n:Nat)(L:List SM){m:SM}(h:m.done=QB):LExt n L (L++[m]):=by
 refine⟨fun i g b=>⟨g,?_,rfl⟩,fun g b f=>?_⟩
 ·rw[IG (j2.1 b).1]
  exact b
 ·rcases nL.1 b with b | b
  ·exact .inl ⟨g,b,f,rfl⟩
  ·rw[hU.1 b,h] at f
   cases f
theorem LExt.set {n k:Nat}{L p:List SM}{m f:SM}(h:LExt n L p)(q:p[k]?=T m)(u:f.name=m.name)(x:∀ j,f.sv.ownBlock=T j->n<=j):LExt n L (p.set k f):=by
 refine⟨fun i o b=>?_,fun o b t=>?_⟩
 ·obtain⟨y,l,s⟩:=h.nam i o b
  by_cases g:k=i
  ·subst g
   rw[q] at l;cases l
   exact⟨f,I5 (j2.1 q).1,u.trans s⟩
  ·exact⟨y,by rw[JO g];exact l,s⟩
 ·rcases IZ b with r | rfl
  ·exact h.sn o r t
  ·exact .inr x
section
variable {w0:G}{S:Spc}{a0 a1:Option Addr}{c0 c1 hb:Nat}{md or st:QE}{making:List ByteArray}{made:List Ent}{L:List SM}
theorem Bj (C:lA w0 S a0 a1)(n':Nat)(HK:mE w0 S hb (Y a0 S.n0 c0) (Y a1 S.n1 c1) n')(w:G)(nm:ByteArray)(GN:making.length+(n'+1)=60)(h:SI w0 hb (Y a0 S.n0 c0) (Y a1 S.n1 c1) w making made L md or st)(hrel:fe L making made)(hp:PG S making made)(mv:eK S making made 1)(Gt:MT S making)(QO:bj made nm=Z)(hi:atL making nm=Z)(tg:Nat)(h3:atI (nm1 S.f1) S.n1 nm=T tg):Calls Tryz.prog 91 #[.pointer (T (N hb 0 Z)),U nm] w fun e w'=>jo w0 hb (Y a0 S.n0 c0) (Y a1 S.n1 c1) making L w e w' (iz nm tg (bW S (aZ S n' (making++[nm])) tg 201 made [] [])):=by
 obtain⟨h1,la⟩:=zc hrel QO hi;have hmade:made.length<=50000:=by unfold eK at mv;omega
 have Ib:L.length<=100000:=by have:=hrel.len;omega
 have GP:making.length<60:=by omega
 have ex:=(bJ h3).1;obtain⟨R,hR⟩:∃ R,R=bW S (aZ S n' (making++[nm])) tg 201 made [] []:=⟨_,rfl⟩
 have HR:=ae hR;obtain⟨tb,Gs,Gl,Fu⟩:=C.tgt.resolve_left (by omega);have Hx:=ae Gl;have Fa:=ae Fu;have FZ:Hid (∀ (W:G) (F3 FW Fq:QE) (a:Option Addr) (cap:Nat),SI w0 hb (Y a0 S.n0 c0) (Y a1 S.n1 c1) W (making++[nm]) made (L++[dl nm]) F3 FW Fq->SlIns w0 a (S.f1 tg).actN (S.f1 tg).act->Calls Tryz.prog 141 #[.pointer (T (N hb 0 Z)),QG #[Y a (S.f1 tg).actN cap]] W fun e w'=>oB w0 hb (Y a0 S.n0 c0) (Y a1 S.n1 c1) (making++[nm]) (L++[dl nm]) W e w' R):=by
  intro W F3 FW Fq a cap hS Fn;rw[hR];refine Bd C n' HK made _ F3 FW Fq W a cap tg (by rw[eI,AS];omega) hS (qY hrel la rfl rfl) (ke hp QO) ?_ ?_ ex Fn
  ·have:=gQ ex (bJ h3).2 QO hi
   unfold eK at mv ⊢;omega
  ·intro t ht
   rcases nL.1 ht with ht | ht
   ·exact Gt t ht
   ·rw[hU.1 ht,h3];rfl
 have HI:=ae hi;have H0:=ae QO;have Gm:Hid (∀ l x,R=.inl (l,x)->l.length<=100000/\∀ y∈l,y.name≠nm):=by intro l x he;rw[hR] at he;have g1:=ig C.ok ex (ej C.ok n' (making++[nm])) _ _ _ _ _ _ (ke hp QO) (jl S made) rfl he;have g2:=qO (fun made H7 F9 e=>kW S n' (making++[nm]) made H7 F9 e) _ _ _ _ _ _ he;have g3:=gQ ex (bJ h3).2 QO hi;refine⟨?_,(mR g1.1).2⟩;unfold fM at g2;unfold eK at mv;omega
 have Ge:=ae la;have HREL:=ae hrel;rw[<-hR];clear HK hp mv Gt QO Fu Gl hR la hrel;obtain⟨im,GT,Hl,ph,FP⟩:=eY lB;obtain⟨i1,Gi,Gy,Gh,Gz⟩:=eY gI;have A0:=ae ((q9 w).alloc ly (Q #[J I 0,U ⟨#[]⟩,Y Z 0 0] 37));have kr:Hid ((w.alloc (Q #[J I 0,U ⟨#[]⟩,Y Z 0 0] 37)).heap[w.heap.size]?=T (Q #[J I 0,U ⟨#[]⟩,Y Z 0 0] 37 (0,0))):=eT _ _;have S0:=ae (h.below A0 ly);have s:w0.heap.size<=w.heap.size:=h.lt;have e1:da (fI L nm)=-1:=by rw[h1];rfl
 obtain⟨am,cm,rfl⟩:=ew h.rmd;obtain⟨n,hn⟩:∃ n,n=L.length:=⟨_,rfl⟩
 have HN:=ae hn;have CC:=ae C;have hsm:=C.ok.small;have hn1:n<=100000:=by omega
 clear h h1 hn C;obtain⟨es0,es⟩:∃ z,da (atI (nm0 S.f0) S.n0 nm)=z:=⟨_,rfl⟩
 clear ex;have et:da (atI (nm1 S.f1) S.n1 nm)=(tg:Int):=by rw[h3];rfl
 have FF:∀ (j:Nat) (y:ByteArray),making[j]?=T y->(y.toList == nm.toList)=QB:=fun j y hy=>by unfold atL at hi;rw[JU] at hi;exact hi y (IE hy)
 have GY:=ae FF;obtain⟨ms,FC⟩:∃ ms,ms=making.length:=⟨_,rfl⟩
 have QM:=ae FC;have hT0:(0:Int)<=(tg:Int):=by omega
 have ex:=(bJ h3).1;rw[<-FC] at GP;obtain⟨Gc,Gr,rfl⟩:=ew S0.rst;clear h3 hi FF FC;clear GN;go_enter Tryz.func91,Tryz.ntmps91;go_wp2_with fail;generalize w.alloc (Q #[J I 0,U ⟨#[]⟩,Y Z 0 0] 37)=W0 at A0 kr S0 ⊢;refine(gG W0 nm S0 Ib).mono ?_;rintro e w1 ⟨rfl,Gv⟩;rw[Gv,e1];clear Gv e1;obtain⟨E,-,-,b2,-⟩:=S0.box.facts;rw[<-HN.out] at b2;have A1:=ae ((q9 W0).alloc ly (Q #[U nm,J I 0,U ⟨#[]⟩,Y Z 0 0,Y Z 0 0,QC QB] 161));have SA:=ae (S0.below A1 ly);have RM:=ae (by have h:=SA.rmd;rw[<-HN.out] at h;exact h);have H9:(W0.alloc (Q #[U nm,J I 0,U ⟨#[]⟩,Y Z 0 0,Y Z 0 0,QC QB] 161)).heap.size=W0.heap.size+1:=by simp
 have HG:Hid (∀ QR:G,(W0.alloc (Q #[U nm,J I 0,U ⟨#[]⟩,Y Z 0 0,Y Z 0 0,QC QB] 161)).grownBy QR (Value.slice am n cm).ownBlock->QR.heap[hb]?=(W0.alloc (Q #[U nm,J I 0,U ⟨#[]⟩,Y Z 0 0,Y Z 0 0,QC QB] 161)).heap[hb]?):=fun QR hg=>hg.block hb (by omega) fun e=>by obtain⟨_,_,cs,hc⟩:=aj RM hb e.symm;exact absurd (ar SA.box hc) (by decide)
 have GQ:w0.heap.size<=(W0.alloc (Q #[U nm,J I 0,U ⟨#[]⟩,Y Z 0 0,Y Z 0 0,QC QB] 161)).heap.size:=SA.lt;have hz1':W0.heap.size<(W0.alloc (Q #[U nm,J I 0,U ⟨#[]⟩,Y Z 0 0,Y Z 0 0,QC QB] 161)).heap.size:=by omega
 clear H9
 go_upto_region 7 with (first
  | (at_builtin;refine bu _ rfl (.tmp 46) (.tmp 49) 87 rfl w0.heap.size 161 im (QG #[U ⟨#[]⟩,J I 0,U ⟨#[]⟩,Y Z 0 0,Y Z 0 0,QC QB]) 6 96 Tryz.underlying87 GT Hl ph FP rfl (by decide) (Y am n cm) n (L.flatMap smV) (by simp[Act.eval]) RM.out (N W0.heap.size 0 Z) 1 1 [U nm,J I 0,U ⟨#[]⟩,Y Z 0 0,Y Z 0 0,QC QB] (by simp[Act.eval]) rfl (lF W0 _ _ _ _ _ _ _) (by simp[Value.oneCell']) (by unfold maxLen;omega) (by omega) GQ ?_;intro v2 QR D r n6;have O2:=ae D;have G2:=ae r;have GA:=ae (HG QR r);obtain⟨g2,Fk,cu2,rfl,Ic⟩:=D.2.resolve_left (fun h=>by omega);clear Ic D r n6;obtain⟨GK,-,-,f2,-,-,-,-,-,-,ff⟩:=(ShBox.blk SA.box GA).facts;have Hn:=ff 2;clear ff)
  | fail)
 have SX:=ae (SA.addL (m:=dl nm) (w':=QR) (v:=Y (T (N g2 0 Z)) (n+1) Fk) (by rw[<-HN.out];exact G2) (by rw[<-HN.out];exact O2) rfl);have S3:=ae SX.1;have K3:Hid (KS w0.heap.size XN w (QR.setCell (N hb 2 Z) (Y (T (N g2 0 Z)) (n+1) Fk))):=((KS.of_below (X:=XN) A0 ly s).to (KS.of_below A1 ly S0.lt)).to SX.2;have Ff:Hid ((QR.setCell (N hb 2 Z) (Y (T (N g2 0 Z)) (n+1) Fk)).heap[w.heap.size]?=T (Q #[J I 0,U ⟨#[]⟩,Y Z 0 0] 37 (0,0))):=by have QO:=(A1.block _ (ag kr)).trans kr;exact(SX.2.blk _ _ _ _ QO (by decide) (by decide) (by decide) fun h=>h).trans QO
 have n8:(L++[dl nm]).length=n+1:=by rw[eI,AS,<-HN.out]
 have fd:Hid ((L++[dl nm])[n]?=T (dl nm)):=by rw[HN.out];show _=_;rw[BS ly,J2];rfl
 clear SX f2 Hn GK b2 E RM SA A1 HG O2 G2 GA;generalize QR.setCell (N hb 2 Z) (Y (T (N g2 0 Z)) (n+1) Fk)=W3 at S3 K3 Ff ⊢;obtain⟨E,b0,b1,-⟩:=S3.box.facts;go_wp2_with fail;refine(dU a0 S.n0 c0 a1 S.n1 c1 S.f0 nm W3 (by omega) (CC.src.below S3.bel ly)).mono ?_;rintro e w4 ⟨he,hB⟩;rw[es] at he;subst he;have S4:=ae (S3.below hB ly);have FD:Hid (w4.heap[w.heap.size]?=_):=(hB.block _ (ag Ff)).trans Ff;have K4:=ae (K3.to (KS.of_below (X:=XN) hB ly S3.lt));clear hB b0 b1 E S3 K3 Ff;obtain⟨E,b0,b1,-⟩:=S4.box.facts;go_wp2_with fail;refine(eu a0 S.n0 c0 a1 S.n1 c1 S.f1 nm w4 (by omega) (CC.tgt.below S4.bel ly)).mono ?_;rintro e w5 ⟨he,hB⟩;rw[et] at he;subst he;have S5:=ae (S4.below hB ly);have Fv:Hid (w5.heap[w.heap.size]?=T (Q #[J I 0,U ⟨#[]⟩,Y Z 0 0] 37 (0,0))):=(hB.block _ (ag FD)).trans FD;have K5:=ae (K4.to (KS.of_below (X:=XN) hB ly S4.lt));clear hB b0 b1 E S4 K4 FD A0 S0 kr;obtain⟨E,-,-,-,-,b4,b5,b6,b7,b8,bf⟩:=S5.box.facts;have FH:=bf 4;have Hp:=bf 5;have H6:=bf 6;have Hi:=bf 7;have Hd:=bf 8;rw[<-QM.out] at b4;clear bf;go_wp2_with fail;go_loop [9] (fun i=>∃ j:Nat,j<=ms/\i=J I j) (fun i=>ms - (intOf i).toNat);case atStart=>exact⟨0,by omega,rfl⟩
 case round =>
 obtain⟨j,hj,rfl⟩:=hrel;by_cases hlt:j<ms
 ·obtain⟨y,hy⟩:∃ y,making[j]?=T y:=⟨_,gq (by have:=QM.out;omega)⟩
  obtain⟨gs,cs,cus,ev,-⟩:=S5.rst.2.resolve_left (fun h=>by have:=QM.out;omega);rw[<-QM.out] at ev;cases ev
  have dj:w5.cell? (N gs j Z)=T (U y):=oC S5.rst hy;have hjm:(j:Int)<(ms:Int):=by omega
  have Ge:=ae (GY j y hy);clear hy;have la:=Ge.out;go_wp2;exact⟨⟨j+1,by omega,by go_num⟩,by simp[intOf];omega⟩
 obtain rfl:j=ms:=by omega
 ·have hI60:¬ (60:Int)<=(j:Int):=by omega
  clear b5 b6 b7 b8 Hp H6 Hi Hd;have A6:=ae ((q9 w5).alloc ly (Q #[U nm] 9));have QK:=ae (S5.below A6 ly);have RS:=ae (by have h:=QK.rst;rw[<-QM.out] at h;exact h);have FO:w0.heap.size<=(w5.alloc (Q #[U nm] 9)).heap.size:=QK.lt;obtain⟨q0,aa,ca,q1,-⟩:=(Fa.below QK.bel ly).2 tg ex;obtain⟨-,aa',ca',Gp,Fn⟩:=Fa.2 tg ex;have E9:=Fa.1;have e1:=(QK.bel.cell (p:=(N tb (Gs+tg*2+1) Z)) E9).trans Gp;rw[q1] at e1;simp only[IF,IB,MV] at e1;obtain⟨rfl,rfl⟩:=e1;have Hu:=ae Fn;have Q1:=ae q1;clear q0 q1 Gp Fn;have Fs:Hid ((w5.alloc (Q #[U nm] 9)).heap[w.heap.size]?=T (Q #[J I 0,U ⟨#[]⟩,Y Z 0 0] 37 (0,0))):=(A6.block _ (ag Fv)).trans Fv;have HG:Hid (∀ QR:G,(w5.alloc (Q #[U nm] 9)).grownBy QR (Value.slice Gc j Gr).ownBlock->QR.heap[hb]?=(w5.alloc (Q #[U nm] 9)).heap[hb]?/\QR.heap[tb]?=(w5.alloc (Q #[U nm] 9)).heap[tb]?):=fun QR hg=>by
   refine⟨hg.block hb (ag QK.box) fun e=>?_,hg.block tb (lj E9 FO) fun e=>?_⟩
   ·obtain⟨_,_,Fd,hc⟩:=aj RS hb e.symm
    exact absurd (ar QK.box hc) (by decide)
   ·have:=(aj RS tb e.symm).1
    omega
  have Hm:w0.heap.size<=hb:=S5.hbB;have htbh:¬ tb=hb:=by omega
  have htbh':¬ hb=tb:=by omega
  have htI:(tg:Int)<(S.n1:Int):=by omega
  go_wp2_with (first
   | (at_builtin;refine bu _ rfl (.tmp 166) (.tmp 168) 35 rfl w0.heap.size 9 i1 (U ⟨#[]⟩) 1 16 Tryz.underlying35 Gi Gy Gh Gz rfl (by decide) (Y Gc j Gr) j (bZ making) (by simp[Act.eval]) RS.out (N w5.heap.size 0 Z) 1 1 [U nm] (by simp[Act.eval]) rfl (lG w5 _ _) (by simp[Value.oneCell']) (by unfold maxLen;omega) (by omega) FO ?_;intro v7 w7 D r n6;have O7:=ae D;have G7:=ae r;have GF:=ae n6;have FY:=ae (HG w7 r);obtain⟨g7,c7,cu7,rfl,Ht⟩:=D.2.resolve_left (fun h=>by omega);clear Ht D r n6;obtain⟨Fz,-,f1,-,-,f4,-,-,-,-,ff⟩:=(ShBox.blk QK.box FY.1).facts;have Hk:=ff 4;rw[Hx.out] at f1;have f9:=(cq (a:=(N tb (Gs+tg*2+1) Z)) FY.2).trans Q1.out;have Ie:tb<w7.heap.size:=(lj (lj E9 Hm) (LJ Fz));clear ff)
   | fail)
  have SP:=ae (QK.push (nm:=nm) (w':=w7) (v:=Y (T (N g7 0 Z)) (j+1) c7) (by rw[<-QM.out];exact G7) (by rw[<-QM.out];exact O7) (by rw[<-QM.out];exact GF));have S7:=ae SP.1;have K7:Hid (KS w0.heap.size XN w (w7.setCell (N hb 4 Z) (Y (T (N g7 0 Z)) (j+1) c7))):=(K5.to (KS.of_below (X:=XN) A6 ly S5.lt)).to SP.2;have QP:Hid ((w7.setCell (N hb 4 Z) (Y (T (N g7 0 Z)) (j+1) c7)).heap[w.heap.size]?=T (Q #[J I 0,U ⟨#[]⟩,Y Z 0 0] 37 (0,0))):=(SP.2.blk _ _ _ _ Fs (by decide) (by decide) (by decide) fun h=>h).trans Fs;clear SP f1 f4 f9 Hk Fz Ie O7 G7 GF FY HG RS QK A6 Fs Q1 S5 K5 Fv b4 FH E;generalize w7.setCell (N hb 4 Z) (Y (T (N g7 0 Z)) (j+1) c7)=W7 at S7 K7 QP ⊢;refine(FZ W7 _ _ _ aa ca S7 Hu).mono ?_;clear FZ;rintro e QL At;rcases R with ⟨l,x⟩ | c | d
  ·obtain⟨L1,md1,He,st1,gx,cx,rfl,Bk,ld,Fl,GI,FJ,H⟩:=At
   obtain⟨GL,F7⟩:=Gm.out l x rfl;clear Gm;obtain⟨g,Ft⟩:∃ g,g=x.1.code:=⟨_,rfl⟩
   obtain⟨f,FU⟩:∃ f,f=x.1.text:=⟨_,rfl⟩
   obtain⟨ls,Fh⟩:∃ ls,ls=x.2:=⟨_,rfl⟩
   obtain⟨ln,Fe⟩:∃ ln,ln=ls.length:=⟨_,rfl⟩
   have FV:iz nm tg (.inl (l,x))=.inl ((l++[⟨nm,3,g,f,tg,ls⟩]),⟨nm,3,g,f,tg,ls⟩):=by rw[Ft,FU,Fh];rfl
   have GS:=ae FV;rw[<-Fh,<-Fe] at Fl;rw[<-Ft,<-FU,<-Fh,<-Fe];clear FV Ft FU Fh;have GJ:=ae Fe;clear Fe;obtain⟨m1,ph,n7⟩:=FJ.nam n (dl nm) fd;replace n7:m1.name=nm:=n7;have Hr:Hid (m1.done=QB):=by
    obtain⟨m2,FP,e2,e3⟩:=ld.mkg nm (JD _ (hU.2 rfl));obtain⟨i2,FK⟩:=JH FP;have e4:=vI ld.nod FK ph (e2.trans n7.symm);rw[e4,ph] at FK;cases FK
    exact e3
   have fd:=ae ph;obtain⟨QN,hN⟩:∃ QN,QN=L1.length:=⟨_,rfl⟩
   have n8:L1.length=QN:=hN.symm;have hnN:n<QN:=by rw[hN];exact(j2.1 ph).1
   obtain⟨b,DE,cum,rfl,-⟩:=Bk.rmd.2.resolve_left (fun h=>by omega);obtain⟨gp,B,cup,rfl,Gg⟩:=Bk.rst.2.resolve_left (fun h=>by rw[eI,AS] at h;omega);have hcp:j+1<=B:=by have:=Gg.2.2.1;rw[eI,AS,<-QM.out] at this;exact this
   rw[n8,eI,AS,<-QM.out] at Bk;have KW:=ae (K7.to H);have o:Hid (QL.heap[w.heap.size]?=T (Q #[J I 0,U ⟨#[]⟩,Y Z 0 0] 37 (0,0))):=(H.blk _ _ _ _ QP (by decide) (by decide) (by decide) fun h=>h).trans QP;have FA:w.heap.size<=W7.heap.size:=K7.below.size;have X8:=ae (((LExt.add w.heap.size L (m:=dl nm) rfl).trans FJ FA));have Hy:Hid (w.heap.size<=gx):=p9 FA (aj Fl gx rfl).1;have Hj:=ae (aE Fl (p9 s FA));have GO:=ae ld;have hw8:w.heap.size<=QL.heap.size:=KW.below.size;have F0:=ae Bk;have FQ:=ae n7;have GH:=ae F7;clear Bk ld Fl GI FJ H n7 ph F7 Gg S7 K7 QP hN;have A:=ae ((q9 QL).alloc ly (Q #[J I g,U f,Y Z 0 0] 37));have kb:Hid ((QL.alloc (Q #[J I g,U f,Y Z 0 0] 37)).heap[QL.heap.size]?=T (Q #[J I g,U f,Y Z 0 0] 37 (0,0))):=eT _ _;have Fm:=ae (F0.below A ly);have K9:=ae (KS.of_below (X:=XN) A ly F0.lt);have Fg:Hid ((QL.alloc (Q #[J I g,U f,Y Z 0 0] 37)).heap[w.heap.size]?=T (Q #[J I 0,U ⟨#[]⟩,Y Z 0 0] 37 (0,0))):=(A.block _ (ag o)).trans o;go_upto_region 30 with fail;generalize QL.alloc (Q #[J I g,U f,Y Z 0 0] 37)=P at A kb Fm K9 Fg ⊢;obtain⟨O,Gf⟩:∃ O,O=QL.heap.size:=⟨_,rfl⟩
   rw[<-Gf] at kb ⊢;have hrbw:w.heap.size<=O:=by omega
   clear Gf A F0 o;obtain⟨E,-,-,-,-,b4,-,-,-,b8,bf⟩:=Fm.box.facts;have FH:=bf 4;clear bf;go_upto_region 32 with fail;have Hc:IntKind.i64.wrap (j:Int)=(j:Int):=EO (by omega) (by omega);have Ia:(0:Int)<=(j:Int):=by omega
   have Hf:(j:Int)<=(B:Int):=by omega
   refine aD (fun V=>V.cell? (N hb 4 Z)=T (Y (T (N gp 0 Z)) (j+1) B)) 14 (by as_aux_lemma=>kernel_rfl) ?_;have HS:Hid (P.drew.cell? (N hb 4 Z)=T (Y (T (N gp 0 Z)) (j+1) B)):=b4
   iterate 10
    refine aL 0 (v:=?_) rfl rfl (by as_aux_lemma=>kernel_rfl) (fun _ _ _ h=>h) rfl ?_ HS ?_;rotate_left
    ·(intro wz s0;go_simp)
     (try with_reducible rfl)
    (try simp only[Act.put,nzL])
   refine gS (i:=10) (v:=J I (j:Int)) rfl (by as_aux_lemma=>kernel_rfl) (by as_aux_lemma=>kernel_rfl) (by as_aux_lemma=>kernel_rfl) (by as_aux_lemma=>kernel_rfl) (fun _ _ _ h=>h) rfl ?_ HS ?_
   ·intro wz s0
    go_simp
   (try simp only[Act.put,nzL])
   refine gS (i:=11) (v:=Y (T (N gp 0 Z)) j B) rfl (by as_aux_lemma=>kernel_rfl) (by as_aux_lemma=>kernel_rfl) (by as_aux_lemma=>kernel_rfl) (by as_aux_lemma=>kernel_rfl) (fun _ _ _ h=>h) rfl ?_ HS ?_
   ·intro wz s0
    go_simp
   (try simp only[Act.put,nzL])
   iterate 2
    refine cC 12 rfl rfl (by as_aux_lemma=>kernel_rfl) (fun K hK=>?_);go_simp;refine hK _ _ (fun _=>HS) ?_;clear hK K
    (try simp only[Act.put,nzL])
   have PP:Hid (SI w0 hb (Y a0 S.n0 c0) (Y a1 S.n1 c1) (P.setCell (N hb 4 Z) (Y (T (N gp 0 Z)) j B)) making l L1 (Y (T (N b 0 Z)) QN DE) He (Y (T (N gp 0 Z)) j B)/\KS w0.heap.size XN P (P.setCell (N hb 4 Z) (Y (T (N gp 0 Z)) j B))):=by have h:=Fm.out;rw[QM.out] at h ⊢;exact h.pop
   refine af (i:=14) rfl (by as_aux_lemma=>kernel_rfl) (fun K hK=>?_);go_simp;refine hK _ _ (fun h=>absurd rfl h) ?_;clear hK K HS b4 FH b8
   (try simp only[Act.put])
   refine aM (by as_aux_lemma=>kernel_rfl) ?_ _;have D6:Hid (Below (P.setCell (N hb 4 Z) (Y (T (N gp 0 Z)) j B)).heap.size (P.setCell (N hb 4 Z) (Y (T (N gp 0 Z)) j B)) (P.setCell (N hb 4 Z) (Y (T (N gp 0 Z)) j B)).drew):=br.drew;have QK:=ae (PP.1.below D6 ly);have K6:=ae ((K9.to PP.2).to (KS.of_below (X:=XN) D6 ly PP.1.lt));have Fc:Hid ((P.setCell (N hb 4 Z) (Y (T (N gp 0 Z)) j B)).drew.heap[w.heap.size]?=T (Q #[J I 0,U ⟨#[]⟩,Y Z 0 0] 37 (0,0))):=(PP.2.blk _ _ _ _ Fg (by decide) (by decide) (by decide) fun h=>h).trans Fg;have Fw:Hid ((P.setCell (N hb 4 Z) (Y (T (N gp 0 Z)) j B)).drew.heap[O]?=T (Q #[J I g,U f,Y Z 0 0] 37 (0,0))):=(PP.2.blk _ _ _ _ kb (by decide) (by decide) (by decide) fun h=>h).trans kb;clear PP D6 Fm K9 Fg kb Hc Ia Hf E;generalize (P.setCell (N hb 4 Z) (Y (T (N gp 0 Z)) j B)).drew=QJ at QK K6 Fc Fw ⊢;have kb:=ae Fw.out;clear Fw;go_upto_region 33 with fail;obtain⟨E,-,-,b2,-⟩:=QK.box.facts;obtain⟨rl,r0,r1,r2,-⟩:=aY kb;obtain⟨hg2B,hg2l,Fd,F1⟩:=aj QK.rmd b rfl;have FM:=ae F1;have R6:Hid (QJ.ownsRow w0.heap.size 161 6 (Y (T (N b 0 Z)) QN DE) QN (L1.flatMap smV)):=by have h:=QK.rmd;rw[n8] at h;exact h
   have q1:QJ.cell? (N b (n*6+1) Z)=T (J I m1.code):=bR (by rw[n8];exact R6) fd 1 (by omega) rfl;have q2:QJ.cell? (N b (n*6+1+1) Z)=T (U m1.text):=bR (by rw[n8];exact R6) fd 2 (by omega) rfl;have q3:QJ.cell? (N b (n*6+1+2) Z)=T (Y Z 0 0):=bR (by rw[n8];exact R6) fd 3 (by omega) rfl;have qf:∀ j,QJ.frozen? (N b j Z)=QB:=fun j=>by simp[World.frozen?,F1]
   have Id:=qf (n*6+1);have Hg:=qf (n*6+1+1);have GV:=qf (n*6+1+2);clear qf F1;have hIn:(n:Int)<(QN:Int):=by omega
   have DS:b≠hb:=by intro e;have h:=FM.out;rw[e] at h;exact absurd (ar h QK.box) (by decide)
   have M:b≠O:=by intro e;have h:=FM.out;rw[e] at h;exact absurd (ar h kb) (by decide)
   refine wp_region_held_drew (S:=fun V=>V.cell? (N hb 2 Z)=T (Y (T (N b 0 Z)) QN DE)/\V.cell? (N O 0 Z)=T (J I g)/\V.cell? (N O 1 Z)=T (U f)/\V.cell? (N O 2 Z)=T (Y Z 0 0)) (by as_aux_lemma=>kernel_rfl) ⟨b2,r0,r1,r2⟩ (fun hS=>?_);have HS:=ae hS;clear hS
   iterate 8
    first | refine bB 0 (v:=?_) rfl rfl (by as_aux_lemma=>kernel_rfl) (fun _ _ _ h=>h) rfl ?_ HS ?_ | refine bB 4 (v:=?_) rfl rfl (by as_aux_lemma=>kernel_rfl) (fun _ _ _ h=>h) rfl ?_ HS ?_
    rotate_left
    ·(intro wz GU;obtain⟨s0,s1,s2,s3⟩:=GU;go_simp)
     (try with_reducible rfl)
    (try simp only[Act.put,nzL])
   have TL:=ae (QK.told n8 fd Hr g f)
   have Gk:Hid ((((QJ.setCell (N b (n*6+1) Z) (J I g)).setCell (N b (n*6+1+1) Z) (U f)).setCell (N b (n*6+1+2) Z) (Y Z 0 0)).drew.cell? (N hb 2 Z)=T (Y (T (N b 0 Z)) QN DE)/\(((QJ.setCell (N b (n*6+1) Z) (J I g)).setCell (N b (n*6+1+1) Z) (U f)).setCell (N b (n*6+1+2) Z) (Y Z 0 0)).drew.cell? (N O 0 Z)=T (J I g)/\(((QJ.setCell (N b (n*6+1) Z) (J I g)).setCell (N b (n*6+1+1) Z) (U f)).setCell (N b (n*6+1+2) Z) (Y Z 0 0)).drew.cell? (N O 1 Z)=T (U f)/\(((QJ.setCell (N b (n*6+1) Z) (J I g)).setCell (N b (n*6+1+1) Z) (U f)).setCell (N b (n*6+1+2) Z) (Y Z 0 0)).drew.cell? (N O 2 Z)=T (Y Z 0 0)) :=
    ⟨(cell_far _ _ _ _ DS).trans ((cell_far _ _ _ _ DS).trans ((cell_far _ _ _ _ DS).trans b2)),(cell_far _ _ _ _ M).trans ((cell_far _ _ _ _ M).trans ((cell_far _ _ _ _ M).trans r0)),(cell_far _ _ _ _ M).trans ((cell_far _ _ _ _ M).trans ((cell_far _ _ _ _ M).trans r1)),(cell_far _ _ _ _ M).trans ((cell_far _ _ _ _ M).trans ((cell_far _ _ _ _ M).trans r2))⟩
   refine aR (i:=8) rfl (by as_aux_lemma=>kernel_rfl) (fun K hK=>?_);go_simp;refine hK _ _ Gk ?_;clear hK K HS q1 q2 q3 Id Hg GV b2 r0 r1 r2 rl
   (try simp only[Act.put])
   refine wpAnyH_done (by as_aux_lemma=>kernel_rfl) ?_ _;have D7:Hid (Below (((QJ.setCell (N b (n*6+1) Z) (J I g)).setCell (N b (n*6+1+1) Z) (U f)).setCell (N b (n*6+1+2) Z) (Y Z 0 0)).heap.size (((QJ.setCell (N b (n*6+1) Z) (J I g)).setCell (N b (n*6+1+1) Z) (U f)).setCell (N b (n*6+1+2) Z) (Y Z 0 0)) (((QJ.setCell (N b (n*6+1) Z) (J I g)).setCell (N b (n*6+1+1) Z) (U f)).setCell (N b (n*6+1+2) Z) (Y Z 0 0)).drew):=br.drew;have S7:=ae (TL.1.below D7 ly);have K7:=ae (K6.to (TL.2.1.to (KS.of_below (X:=XN) D7 ly TL.1.lt)));have GC:=TL.2.2.1;have Gq:=TL.2.2.2;have QP:Hid ((((QJ.setCell (N b (n*6+1) Z) (J I g)).setCell (N b (n*6+1+1) Z) (U f)).setCell (N b (n*6+1+2) Z) (Y Z 0 0)).drew.heap[w.heap.size]?=T (Q #[J I 0,U ⟨#[]⟩,Y Z 0 0] 37 (0,0))):=by have QO:=(TL.2.1.blk _ _ _ _ Fc (by decide) (by decide) (by decide) fun h=>h).trans Fc;exact QO
   have Fi:Hid ((((QJ.setCell (N b (n*6+1) Z) (J I g)).setCell (N b (n*6+1+1) Z) (U f)).setCell (N b (n*6+1+2) Z) (Y Z 0 0)).drew.heap[O]?=T (Q #[J I g,U f,Y Z 0 0] 37 (0,0))):=by have QO:=(TL.2.1.blk _ _ _ _ kb (by decide) (by decide) (by decide) fun h=>h).trans kb;exact QO
   have FX:=ae GC;have Fx:=ae Gq;clear TL Gk GC Gq Fc kb K6 QK R6 FM D7;generalize (((QJ.setCell (N b (n*6+1) Z) (J I g)).setCell (N b (n*6+1+1) Z) (U f)).setCell (N b (n*6+1+2) Z) (Y Z 0 0)).drew=W7 at S7 K7 QP Fi ⊢;have OS:=ae Hj.out;obtain⟨E,-,-,b2,-⟩:=S7.box.facts;obtain⟨Ga,F8,Hw,CD⟩:=aj S7.rmd b rfl;have q4:W7.cell? (N b (n*6+4) Z)=T m1.sv:=bR (by have h:=S7.rmd;rw[Fx.out] at h ⊢;exact h) FX 4 (by omega) rfl;have Ig:W7.frozen? (N b (n*6+4) Z)=QB:=by simp[World.frozen?,CD]
   have TD:=ae (S7.upd' Fx FX (j:=4) (by omega) (u:=Y (T (N gx 0 Z)) ln cx) (m':=⟨m1.name,g,f,ls,Y (T (N gx 0 Z)) ln cx,QB⟩) rfl (fun h=>by cases h));have th:Hid ((W7.setCell (N b (n*6+4) Z) (Y (T (N gx 0 Z)) ln cx)).heap[w.heap.size]?=T (Q #[J I 0,U ⟨#[]⟩,Y Z 0 0] 37 (0,0))):=(TD.2.1.blk _ _ _ _ QP (by decide) (by decide) (by decide) fun h=>h).trans QP;have ur:Hid ((W7.setCell (N b (n*6+4) Z) (Y (T (N gx 0 Z)) ln cx)).heap[O]?=T (Q #[J I g,U f,Y Z 0 0] 37 (0,0))):=(TD.2.1.blk _ _ _ _ Fi (by decide) (by decide) (by decide) fun h=>h).trans Fi;have sm:=ae TD.1;have Fj:=ae (K7.to TD.2.1);have Fy:=ae TD.2.2.1;have Fp:=ae TD.2.2.2;clear CD;go_upto_region 35 with fail;clear b2 q4 Ig TD S7 K7 QP Fi FX Fx;generalize W7.setCell (N b (n*6+4) Z) (Y (T (N gx 0 Z)) ln cx)=DQ at sm Fj th ur ⊢;have Hb:=ae (Ep OS Fj);obtain⟨E,-,-,b2,-⟩:=sm.box.facts;obtain⟨Ga,F8,Hw,CD⟩:=aj sm.rmd b rfl;have q5:DQ.cell? (N b (n*6+5) Z)=T (QC QB):=bR (by have h:=sm.rmd;rw[Fp.out] at h ⊢;exact h) Fy 5 (by omega) rfl;have Hv:DQ.frozen? (N b (n*6+5) Z)=QB:=by simp[World.frozen?,CD]
   have TD:=ae (sm.upd' Fp Fy (j:=5) (by omega) (u:=QC QD) (m':=⟨m1.name,g,f,ls,Y (T (N gx 0 Z)) ln cx,QD⟩) rfl (fun _=>(by rw[<-GJ.out];exact Hb)));have o:Hid ((DQ.setCell (N b (n*6+5) Z) (QC QD)).heap[w.heap.size]?=T (Q #[J I 0,U ⟨#[]⟩,Y Z 0 0] 37 (0,0))):=(TD.2.1.blk _ _ _ _ th (by decide) (by decide) (by decide) fun h=>h).trans th;have ro:Hid ((DQ.setCell (N b (n*6+5) Z) (QC QD)).heap[O]?=T (Q #[J I g,U f,Y Z 0 0] 37 (0,0))):=(TD.2.1.blk _ _ _ _ ur (by decide) (by decide) (by decide) fun h=>h).trans ur;have S8:=ae TD.1;have K8:=ae (Fj.to TD.2.1);clear CD;go_upto_region 36 with fail;clear b2 q5 Hv TD sm Fj th ur;generalize DQ.setCell (N b (n*6+5) Z) (QC QD)=W8 at S8 K8 o ro ⊢;obtain⟨ao,co,rfl⟩:=ew S8.ror;obtain⟨q,hq⟩:∃ q,q=l.length:=⟨_,rfl⟩
   have HQ:=ae hq;rw[<-hq] at GL;clear hq;obtain⟨E,-,-,-,b3,-⟩:=S8.box.facts;rw[<-HQ.out] at b3;have A:=ae ((q9 W8).alloc ly (Q #[U nm] 9));have S9:=ae (S8.below A ly);have RO:Hid ((W8.alloc (Q #[U nm] 9)).ownsRow w0.heap.size 9 1 (Y ao q co) q (bZ (l.map (·.name)))):=by have h:=S9.ror;rw[<-HQ.out] at h;exact h
   have GM:w0.heap.size<=(W8.alloc (Q #[U nm] 9)).heap.size:=S9.lt;have HG:Hid (∀ QR:G,(W8.alloc (Q #[U nm] 9)).grownBy QR (Value.slice ao q co).ownBlock->QR.heap[hb]?=(W8.alloc (Q #[U nm] 9)).heap[hb]?/\QR.heap[w.heap.size]?=(W8.alloc (Q #[U nm] 9)).heap[w.heap.size]?/\QR.heap[O]?=(W8.alloc (Q #[U nm] 9)).heap[O]?):=fun QR hg=>by
    have la:∀ (i:Nat) (cs:Array QE) (t:TypeId) (fz:Nat × Nat),(W8.alloc (Q #[U nm] 9)).heap[i]?=T (Obj.cells cs t fz)->t≠9->QR.heap[i]?=(W8.alloc (Q #[U nm] 9)).heap[i]?:=fun i cs t fz hi ht=>hg.block i (ag hi) fun e=>by obtain⟨_,_,Fd,hc⟩:=aj RO i e.symm;exact ht (ar hi hc)
    exact⟨la _ _ _ _ S9.box (by decide),la _ _ _ _ ((A.block _ (ag o)).trans o) (by decide),la _ _ _ _ ((A.block _ (ag ro)).trans ro) (by decide)⟩
   have Gx:Hid ((W8.alloc (Q #[U nm] 9)).heap[w.heap.size]?=T (Q #[J I 0,U ⟨#[]⟩,Y Z 0 0] 37 (0,0))):=(A.block _ (ag o)).trans o;have GW:Hid ((W8.alloc (Q #[U nm] 9)).heap[O]?=T (Q #[J I g,U f,Y Z 0 0] 37 (0,0))):=(A.block _ (ag ro)).trans ro;have hbw:¬ hb=w.heap.size:=fun e=>by have h:=S8.box;unfold ShBox at h;rw[e] at h;exact absurd (ar h o) (by decide)
   have Fb:¬ w.heap.size=hb:=fun e=>hbw e.symm;have Hz:¬ hb=O:=fun e=>by have h:=S8.box;unfold ShBox at h;rw[e] at h;exact absurd (ar h ro) (by decide)
   have hbr':¬ O=hb:=fun e=>Hz e.symm
   go_wp2_with (first
    | (at_builtin;refine bu _ rfl (.tmp 235) (.tmp 237) 35 rfl w0.heap.size 9 i1 (U ⟨#[]⟩) 1 16 Tryz.underlying35 Gi Gy Gh Gz rfl (by decide) (Y ao q co) q (bZ (l.map (·.name))) (by simp[Act.eval]) RO.out (N W8.heap.size 0 Z) 1 1 [U nm] (by simp[Act.eval]) rfl (lG W8 _ _) (by simp[Value.oneCell']) (by unfold maxLen;omega) (by omega) GM ?_;intro v9 w9 D r n6;have O9:=ae D;have G9:=ae r;have Hh:=ae n6;have Fo:=ae (HG w9 r);obtain⟨g9,c9,cu9,rfl,Ho⟩:=D.2.resolve_left (fun h=>by omega);clear Ho D r n6;obtain⟨hbl9,-,-,-,f3,-,-,-,-,-,ff⟩:=(ShBox.blk S9.box Fo.1).facts;have ff3:=ff 3;obtain⟨rl,r0,r1,r2,rf⟩:=aY (Fo.2.1.trans Gx);have Gj:=rf 0;have Gu:=rf 1;have Gb:=rf 2;obtain⟨pl,p0,p1,p2,pf⟩:=aY (Fo.2.2.trans GW);clear ff rf pf)
    | fail)
   have Gw:=ae (S9.ord (x:=⟨nm,3,g,f,tg,ls⟩) (w':=w9) (v:=Y (T (N g9 0 Z)) (q+1) c9) (by rw[<-HQ.out];exact G9) (by rw[<-HQ.out];exact O9) (by rw[<-HQ.out];exact Hh));refine bp (v:=QG #[J I g,U f,Y Z 0 0]) (by simp[results,Tryz.results91,go_sem,r0,r1,r2]) rfl ?_;have Gn:=(qh w9 (N hb 3 Z) (Y (T (N g9 0 Z)) (q+1) c9) w.heap.size Fb).trans (Fo.2.1.trans Gx);rw[GS.out];refine⟨L1.set n ⟨m1.name,g,f,ls,Y (T (N gx 0 Z)) ln cx,QD⟩,Y (T (N b 0 Z)) QN DE,Y (T (N g9 0 Z)) (q+1) c9,Y (T (N gp 0 Z)) j B,rfl,?_,vJ GO fd FQ FQ rfl rfl rfl rfl rfl GH HI,X8.set fd rfl (fun k e=>by cases e;exact Hy),?_⟩
   ·have x0:=Gw.1
    rw[LL,LL] at x0;replace x0:=x0.setOff Gn ⟨by decide,by decide,by decide,by decide⟩ s 0 (J I g);have y0:=aA Gn (j:=0) (J I g);have x1:=x0.setOff y0 ⟨by decide,by decide,by decide,by decide⟩ s 1 (U f);exact x1.setOff (aA y0 (j:=1) (U f)) ⟨by decide,by decide,by decide,by decide⟩ s 2 (Y Z 0 0)
   ·have k0:=((KW.to K8).to (KS.of_below (X:=XN) A ly S8.lt)).to Gw.2
    exact((k0.fresh ly s 0 _).fresh ly s 1 _).fresh ly s 2 _
  ·obtain⟨a,k,sv,rfl,⟨s0,s1,G8,Ha,Hq,QH,aq⟩,H⟩:=At
   have A:=ae ((q9 QL).alloc ly (Q #[J I 6,U ⟨#[]⟩,Y a c.length k] 37));have K8:=ae ((K7.to H).to (KS.of_below (X:=XN) A ly (p9 s (K7.to H).below.size)));have bt:=ae (ShBox.blk QH (A.block _ (ag QH)));have n9:=ae (own_below aq A ly);have o:Hid ((QL.alloc (Q #[J I 6,U ⟨#[]⟩,Y a c.length k] 37)).heap[w.heap.size]?=T (Q #[J I 0,U ⟨#[]⟩,Y Z 0 0] 37 (0,0))):=by have QO:=(H.blk _ _ _ _ QP (by decide) (by decide) (by decide) fun h=>h).trans QP;exact(A.block _ (ag QO)).trans QO
   clear H QH aq;unfold gH iM;dsimp only;go_upto_region 30 with fail;clear A;generalize QL.alloc (Q #[J I 6,U ⟨#[]⟩,Y a c.length k] 37)=P at K8 bt n9 o ⊢;obtain⟨E,-,-,-,-,-,b5,b6,b7,b8,-⟩:=bt.facts;have hbw:¬ hb=w.heap.size:=fun e=>by have h:=bt.out;unfold ShBox at h;rw[e] at h;exact absurd (ar h o) (by decide)
   have Fb:¬ w.heap.size=hb:=fun e=>hbw e.symm;obtain⟨rl,r0,r1,r2,rf⟩:=aY o;have Gj:=rf 0;have Gu:=rf 1;have Gb:=rf 2;clear rf;simp only[iM] at b5 b6 b7;go_wp2_with fail;refine bp (v:=QG #[J I 6,U ⟨#[]⟩,Y a c.length k]) (by simp[results,Tryz.results91,go_sem,r0,r1,r2]) rfl ?_;have FG:=(qh ((P.setCell (N w.heap.size 0 Z) (J I 6)).setCell (N w.heap.size 1 Z) (U ⟨#[]⟩)) (N w.heap.size 2 Z) (Y a c.length k) hb hbw).trans ((qh (P.setCell (N w.heap.size 0 Z) (J I 6)) (N w.heap.size 1 Z) (U ⟨#[]⟩) hb hbw).trans ((qh P (N w.heap.size 0 Z) (J I 6) hb hbw).trans bt));have qr:((Y a c.length k:QE)).ownBlock≠T w.heap.size:=fun e=>by obtain⟨_,_,Fd,hc⟩:=aj n9 w.heap.size e;exact absurd (ar o hc) (by decide)
   refine⟨a,k,rfl,⟨_,_,_,_,_,FG,?_⟩,?_⟩
   ·exact ay (ay (ay n9 qr _ _) qr _ _) qr _ _
   ·exact((K8.fresh ly s 0 _).fresh ly s 1 _).fresh ly s 2 _
  ·obtain⟨sv,rfl,⟨s0,s1,G8,Ha,Hq,QH,aq⟩,H⟩:=At
   have A:=ae ((q9 QL).alloc ly (Q #[J I 7,U d,Y Z 0 0] 37));have K8:=ae ((K7.to H).to (KS.of_below (X:=XN) A ly (p9 s (K7.to H).below.size)));have bt:=ae (ShBox.blk QH (A.block _ (ag QH)));have n9:=ae (own_below aq A ly);have o:Hid ((QL.alloc (Q #[J I 7,U d,Y Z 0 0] 37)).heap[w.heap.size]?=T (Q #[J I 0,U ⟨#[]⟩,Y Z 0 0] 37 (0,0))):=by have QO:=(H.blk _ _ _ _ QP (by decide) (by decide) (by decide) fun h=>h).trans QP;exact(A.block _ (ag QO)).trans QO
   clear H QH aq;unfold gH iN;dsimp only;go_upto_region 30 with fail;clear A;generalize QL.alloc (Q #[J I 7,U d,Y Z 0 0] 37)=P at K8 bt n9 o ⊢;obtain⟨E,-,-,-,-,-,b5,b6,b7,b8,-⟩:=bt.facts;have hbw:¬ hb=w.heap.size:=fun e=>by have h:=bt.out;unfold ShBox at h;rw[e] at h;exact absurd (ar h o) (by decide)
   have Fb:¬ w.heap.size=hb:=fun e=>hbw e.symm;obtain⟨rl,r0,r1,r2,rf⟩:=aY o;have Gj:=rf 0;have Gu:=rf 1;have Gb:=rf 2;clear rf;simp only[iN] at b5 b6 b7;go_wp2_with fail;refine bp (v:=QG #[J I 7,U d,Y Z 0 0]) (by simp[results,Tryz.results91,go_sem,r0,r1,r2]) rfl ?_;have FG:=(qh ((P.setCell (N w.heap.size 0 Z) (J I 7)).setCell (N w.heap.size 1 Z) (U d)) (N w.heap.size 2 Z) (Y Z 0 0) hb hbw).trans ((qh (P.setCell (N w.heap.size 0 Z) (J I 7)) (N w.heap.size 1 Z) (U d) hb hbw).trans ((qh P (N w.heap.size 0 Z) (J I 7) hb hbw).trans bt));have qr:((Y Z 0 0:QE)).ownBlock≠T w.heap.size:=fun e=>by obtain⟨_,_,Fd,hc⟩:=aj n9 w.heap.size e;exact absurd (ar o hc) (by decide)
   refine⟨rfl,⟨_,_,_,_,_,FG,?_⟩,?_⟩
   ·exact ay (ay (ay n9 qr _ _) qr _ _) qr _ _
   ·exact((K8.fresh ly s 0 _).fresh ly s 1 _).fresh ly s 2 _
end
section
variable {w0:G}{S:Spc}{a0 a1:Option Addr}{c0 c1 hb:Nat}
theorem tT {L:List SM}{making:List ByteArray}{made:List Ent}{nm:ByteArray}(h:fe L making made)(f:∀ m∈L,m.name≠nm)(r:bj made nm=Z)(h1:atL making nm=Z){m':SM}{x:Ent}(b:m'.name=nm)(l:m'.done=QD)(p:x.name=nm)(s:m'.code=(du x).code)(q:m'.text=(du x).text)(i:m'.seen=x.looks)(o:m'.sv=Y Z 0 0)(n:Nat):fe ((L++[dl nm]).set L.length m') making (made++[x])/\LExt n L ((L++[dl nm]).set L.length m'):=by
 have g:(L++[dl nm])[L.length]?=T (dl nm):=by rw[BS ly,J2];rfl
 refine⟨vJ (qY h f (m:=dl nm) rfl rfl) g rfl b p l s q i (fD r) h1,(LExt.add n L (m:=dl nm) rfl).set g b fun j e=>?_⟩;rw[o] at e;cases e
theorem Bl (C:lA w0 S a0 a1):∀ n,mE w0 S hb (Y a0 S.n0 c0) (Y a1 S.n1 c1) n:=by
 have s:∀ n,(∀ m,n=m+1->mE w0 S hb (Y a0 S.n0 c0) (Y a1 S.n1 c1) m)->mE w0 S hb (Y a0 S.n0 c0) (Y a1 S.n1 c1) n:=by
  intro n y making made L md or st w nm E h hrel QP f u hn;have hmade:made.length<=50000:=by unfold eK at f;omega
  have b:L.length<=100000:=by have:=hrel.len;omega
  rw[kV];unfold dx;cases h0:bj made nm with
  | some e =>obtain⟨k,m,f1,B,A,z,H⟩:=Dv hrel h0;refine(Bh w nm h b k m f1 B A).mono ?_;rintro r w' ⟨rfl,g,j⟩;exact⟨L,md,or,st,by rw[z,H],g,hrel,LExt.refl _ _,j⟩
  | none =>
   cases h1:atL making nm with
   | some i =>
    obtain⟨k,m,f1,B,A,z⟩:=Dw hrel h1;have QR:=u nm z;cases h2:atI (nm1 S.f1) S.n1 nm with
    | none=>rw[h2] at QR;cases QR
    | some tg=>exact uO C w nm h b (by omega) k m f1 B A tg i h2 h1
   | none =>
    obtain⟨D,q⟩:=zc hrel h0 h1;dsimp only;unfold eJ;cases h2:atI (nm0 S.f0) S.n0 nm with
    | some i =>refine(Bi C w nm h b (by omega) D i h2 (nC C.ok h2)).mono ?_;rintro r w' ⟨p,o,rfl,g,j⟩;have l:=tT hrel q h0 h1 (m':=⟨nm,0,(S.f0 i).text,[],Y Z 0 0,QD⟩) (x:=⟨nm,1,0,(S.f0 i).text,0,[]⟩) rfl rfl rfl rfl rfl rfl rfl w.heap.size;exact⟨_,p,o,st,rfl,g,l.1,l.2,j⟩
    | none =>
     cases h3:atI (nm1 S.f1) S.n1 nm with
     | some t =>
      cases n with
      | zero=>exact ze C w nm h b (by omega) D h1 t h3
      | succ m=>exact Bj C m (y m rfl) w nm E h hrel QP f u h0 h1 t h3
     | none =>refine(zd C w nm h b (by omega) D h2 h3).mono ?_;rintro r w' ⟨p,o,rfl,g,j⟩;have l:=tT hrel q h0 h1 (m':=⟨nm,4,nm,[],Y Z 0 0,QD⟩) (x:=⟨nm,2,0,⟨#[]⟩,0,[]⟩) rfl rfl rfl rfl rfl rfl rfl w.heap.size;exact⟨_,p,o,st,rfl,g,l.1,l.2,j⟩
 intro n;induction n with
 | zero=>exact s 0 fun m e=>by omega
 | succ n QO=>exact s (n+1) fun m e=>by cases e;exact QO
end
end Go.Proofs.YtamacmnikdejeaaGreatDoor.Vp
