import Derived.Test.YtamacmnikdejeaaGreatDoorXM
import Derived.WalkSmall
set_option maxRecDepth 1000000
set_option maxHeartbeats 8000000
open Go.Addr renaming mk->T
open Go.Value renaming slice->Y,string->U,int->I,bool->QT,agg->QV
open Option renaming none->Z,some->N
open Go.Obj renaming cells->Q
open Go.IntKind renaming i64->J
open Go renaming World->H,Value->QS
open Bool renaming false->QQ,true->QR
open Go.Ending renaming returned->QU
namespace Go.Proofs.YtamacmnikdejeaaGreatDoor.Vp
open RowKit Ca Go.Maps
section
variable {w0:H}{S:Spc}{a0 a1:Option Addr}{c0 c1 mb mp:Nat}{mk md:QS}{making:List ByteArray}{made:List Ent}{G:ByteArray->Nat}{V:ByteArray->QS}
end
end Go.Proofs.YtamacmnikdejeaaGreatDoor.Vp
namespace Go.Proofs.YtamacmnikdejeaaGreatDoor.Vp
open RowKit Go.Maps
section
variable {w0:H}{S:Spc}{a0 a1:Option Addr}{c0 c1 mb mp:Nat}{mk md:QS}{making:List ByteArray}{made:List Ent}{G:ByteArray->Nat}{V:ByteArray->QS}
end
section
variable {w0:H}{S:Spc}{a0 a1:Option Addr}{c0 c1 mb mp:Nat}{mk md:QS}{making:List ByteArray}{made:List Ent}{G:ByteArray->Nat}{V:ByteArray->QS}
end
end Go.Proofs.YtamacmnikdejeaaGreatDoor.Vp
namespace Go.Proofs.YtamacmnikdejeaaGreatDoor.Vp
open RowKit
theorem ux:∀ (L:List SM) (k j:Nat) (m b:SM) (u:QS),L[k]?=N m->j<6->smV b=(smV m).set j u->(L.flatMap smV).set (k*6+j) u=(L.set k b).flatMap smV
 | [],k,j,m,b,u,h,_,_=>by simp at h
 | a :: L,0,j,m,b,u,h,hj,he=>by simp only[OH,JL] at h;subst h;simp only[JU,List.set_cons_zero,OT,DN];rw[PS _ _ (by rw[nN];exact hj),he]
 | a :: L,k+1,j,m,b,u,h,hj,he=>by simp only[MY] at h;simp only[JU,N9];rw[NI _ _ (by rw[nN];omega),nN,show(k+1)*6+j - 6=k*6+j by omega,ux L k j m b u h hj he]
theorem yI {w:H}{b size n g cap j:Nat}{e:TypeId}{i:List QS}(h:w.ownsRow b e size (Y (N (T g 0 Z)) n cap) n i)(u:QS):(w.setCell (T g j Z) u).ownsRow b e size (Y (N (T g 0 Z)) n cap) n (i.set j u):=by
 refine⟨by rw[JO];exact h.1,?_⟩;rcases h.2 with ⟨c,h0⟩ | ⟨g',cap',f,c,hb,m,h1,h2,l,o⟩
 ·simp at c
 ·simp only[I5,JL,NG] at c
  obtain⟨⟨rfl,-⟩,-,rfl⟩:=c;refine .inr ⟨g,cap,f.setIfInBounds j u,rfl,hb,aB m u,h1,h2,by simpa using l,?_⟩;rw[MJ,QO,o]
section
variable {w0 w w':H}{hb:Nat}{s0 s1 md or st:QS}{making:List ByteArray}{made:List Ent}{L:List SM}
theorem SI.upd {g cap k j:Nat}{m c:SM}{u:QS}(h:SI w0 hb s0 s1 w making made L (Y (N (T g 0 Z)) L.length cap) or st)(D:L[k]?=N m)(G:j<6)(E:smV c=(smV m).set j u)(C:c.done=QR->w.ownsRow w0.heap.size 164 3 c.sv c.seen.length (eB c.seen)):SI w0 hb s0 s1 (w.setCell (T g (k*6+j) Z) u) making made (L.set k c) (Y (N (T g 0 Z)) (L.set k c).length cap) or st/\KS w0.heap.size XN w (w.setCell (T g (k*6+j) Z) u):=by
 obtain⟨i,hgl,cs,o⟩:=ar h.rmd g rfl
 have b:∀ {size n:Nat} {p:TypeId} {s:QS} {B:List QS},w.ownsRow w0.heap.size p size s n B->161≠p->(w.setCell (T g (k*6+j) Z) u).ownsRow w0.heap.size p size s n B:=fun A z=>aA A (fun e=>by
  obtain⟨_,_,r,f⟩:=ar A g e
  exact z (au o f)) _ _
 have y:(L.set k c).length=L.length:=JO;refine⟨⟨h.bel.setCell i u,h.hbB,?_,?_,b h.ror (by decide),b h.rst (by decide),h.apart,fun x l q=>?_⟩,KS.setCell w i (.inr fun r t fz f=>.inr (.inl (au f o))) u⟩
 ·rw[y]
  exact h.box.blk (qh _ _ _ _ fun e=>by
   have F:hb=g:=e
   exact absurd (au h.box (F ▸ o)) (by decide))
 ·rw[y,<-ux L k j m c u D G E]
  exact yI h.rmd u
 ·rcases J7 l with l | rfl
  ·exact b (h.seen x l q) (by decide)
  ·exact b (C q) (by decide)
theorem SI.addL {m:SM}{v:QS}(h:SI w0 hb s0 s1 w making made L md or st)(D:w.grownBy w' md.ownBlock)(B:w'.ownsRow w0.heap.size 161 6 v (L.length+1) (L.flatMap smV++smV m))(Q9:m.done=QQ):SI w0 hb s0 s1 (w'.setCell (T hb 2 Z) v) making made (L++[m]) v or st/\KS w0.heap.size XN w (w'.setCell (T hb 2 Z) v):=by
 have y:=ar h.rmd;have C:KS w0.heap.size XN w w':=KS.of_grown D h.lt fun j M=>by obtain⟨h1,_,g,h2⟩:=y j M;exact⟨h1,.inr fun g t fz l=>.inr (.inl (au l h2))⟩
 have r:∀ (i:Nat) (g:Array QS) (t:TypeId) (fz:Nat × Nat),w.heap[i]?=N (Obj.cells g t fz)->t≠161->w'.heap[i]?=w.heap[i]?:=fun i g t fz hi K=>D.block i (ah hi) fun e=>by obtain⟨_,_,z,h2⟩:=y i e.symm;exact K (au hi h2)
 have b:ShBox w' hb s0 s1 md or st 0 ⟨#[]⟩ (Y Z 0 0) QQ:=h.box.blk (r _ _ _ _ h.box (by decide));have c:∀ {size n:Nat} {s:TypeId} {F:QS} {E:List QS},w.ownsRow w0.heap.size s size F n E->s≠161->89≠s->(w'.setCell (T hb 2 Z) v).ownsRow w0.heap.size s size F n E:=fun u ZB ZA=>by
  have G:=dx (w':=w') u fun k f=>by obtain⟨_,_,g,l⟩:=ar u k f;exact r _ _ _ _ l ZB
  exact aA G (fun e=>by
   obtain⟨_,_,z,q⟩:=ar G hb e
   exact ZA (au b q)) _ _
 have A:(w'.setCell (T hb 2 Z) v).ownsRow w0.heap.size 161 6 v (L.length+1) (L.flatMap smV++smV m):=aA B (fun e=>by
  obtain⟨_,_,z,q⟩:=ar B hb e
  exact absurd (au b q) (by decide)) _ _
 have f:KS w0.heap.size XN w' (w'.setCell (T hb 2 Z) v):=KS.setCell w' h.hbB (.inr fun g t fz l=>.inr (.inr (au l b))) v;refine⟨⟨h.bel.trans (C.to f).below,h.hbB,aB b v,(by rw[a8,p9,HH,List.flatMap_singleton];exact A),c h.ror (by decide) (by decide),c h.rst (by decide) (by decide),h.apart,fun x o p=>?_⟩,C.to f⟩;rcases hU.1 o with o | o
 ·exact c (h.seen x o p) (by decide) (by decide)
 ·rw[eT.1 o,Q9] at p
  cases p
theorem SI.ord {x:Ent}{v:QS}(h:SI w0 hb s0 s1 w making made L md or st)(A:w.grownBy w' or.ownBlock)(D:w'.ownsRow w0.heap.size 9 1 v (made.length+1) (cu (made.map (·.name))++[U x.name]))(B:v.ownBlock=or.ownBlock∨v.ownBlock=N w.heap.size):SI w0 hb s0 s1 (w'.setCell (T hb 3 Z) v) making (made++[x]) L md v st/\KS w0.heap.size XN w (w'.setCell (T hb 3 Z) v):=by
 have u:=ar h.ror;have ZB:KS w0.heap.size XN w w':=KS.of_grown A h.lt fun j QZ=>by obtain⟨h1,_,g,h2⟩:=u j QZ;exact⟨h1,.inr fun g t fz l=>.inl (au l h2)⟩
 have r:∀ (i:Nat) (g:Array QS) (t:TypeId) (fz:Nat × Nat),w.heap[i]?=N (Obj.cells g t fz)->t≠9->w'.heap[i]?=w.heap[i]?:=fun i g t fz hi K=>A.block i (ah hi) fun e=>by obtain⟨_,_,o,h2⟩:=u i e.symm;exact K (au hi h2)
 have c:ShBox w' hb s0 s1 md or st 0 ⟨#[]⟩ (Y Z 0 0) QQ:=h.box.blk (r _ _ _ _ h.box (by decide));have q:∀ {size n:Nat} {s:TypeId} {F:QS} {E:List QS},w.ownsRow w0.heap.size s size F n E->s≠9->89≠s->(w'.setCell (T hb 3 Z) v).ownsRow w0.heap.size s size F n E:=fun y G ZA=>by
  have p:=dx (w':=w') y fun k b=>by obtain⟨_,_,g,l⟩:=ar y k b;exact r _ _ _ _ l G
  exact aA p (fun e=>by
   obtain⟨_,_,o,f⟩:=ar p hb e
   exact ZA (au c f)) _ _
 have z:(w'.setCell (T hb 3 Z) v).ownsRow w0.heap.size 9 1 v (made.length+1) (cu (made.map (·.name))++[U x.name]):=aA D (fun e=>by
  obtain⟨_,_,o,f⟩:=ar D hb e
  exact absurd (au c f) (by decide)) _ _
 have b:KS w0.heap.size XN w' (w'.setCell (T hb 3 Z) v):=KS.setCell w' h.hbB (.inr fun g t fz l=>.inr (.inr (au l c))) v;refine⟨⟨h.bel.trans (ZB.to b).below,h.hbB,aB c v,q h.rmd (by decide) (by decide),(by rw[a8,p9];simpa[cu] using z),?_,fun k m=>?_,fun x Q9 C=>q (h.seen x Q9 C) (by decide) (by decide)⟩,ZB.to b⟩
 ·have p:w'.ownsRow w0.heap.size 9 1 st making.length (cu making):=dx h.rst fun k b=>by
   obtain⟨_,M,g,l⟩:=ar h.rst k b;exact A.block k M fun e=>h.apart k e.symm b
  exact aA p (fun e=>by
   obtain⟨_,_,o,f⟩:=ar p hb e
   exact absurd (au c f) (by decide)) _ _
 ·intro e
  rcases B with a | a
  ·exact h.apart k (by rw[<-a];exact m) e
  ·rw[a] at m
   cases m
   have:=(ar h.rst _ e).2.1;omega
theorem SI.push {nm:ByteArray}{v:QS}(h:SI w0 hb s0 s1 w making made L md or st)(A:w.grownBy w' st.ownBlock)(D:w'.ownsRow w0.heap.size 9 1 v (making.length+1) (cu making++[U nm]))(B:v.ownBlock=st.ownBlock∨v.ownBlock=N w.heap.size):SI w0 hb s0 s1 (w'.setCell (T hb 4 Z) v) (making++[nm]) made L md or v/\KS w0.heap.size XN w (w'.setCell (T hb 4 Z) v):=by
 have s:=ar h.rst;have ZB:KS w0.heap.size XN w w':=KS.of_grown A h.lt fun j QZ=>by obtain⟨h1,_,g,h2⟩:=s j QZ;exact⟨h1,.inr fun g t fz l=>.inl (au l h2)⟩
 have q:∀ (i:Nat) (g:Array QS) (t:TypeId) (fz:Nat × Nat),w.heap[i]?=N (Obj.cells g t fz)->t≠9->w'.heap[i]?=w.heap[i]?:=fun i g t fz hi K=>A.block i (ah hi) fun e=>by obtain⟨_,_,m,h2⟩:=s i e.symm;exact K (au hi h2)
 have c:ShBox w' hb s0 s1 md or st 0 ⟨#[]⟩ (Y Z 0 0) QQ:=h.box.blk (q _ _ _ _ h.box (by decide));have p:∀ {size n:Nat} {r:TypeId} {F:QS} {E:List QS},w.ownsRow w0.heap.size r size F n E->r≠9->89≠r->(w'.setCell (T hb 4 Z) v).ownsRow w0.heap.size r size F n E:=fun y G ZA=>by
  have o:=dx (w':=w') y fun k b=>by obtain⟨_,_,g,l⟩:=ar y k b;exact q _ _ _ _ l G
  exact aA o (fun e=>by
   obtain⟨_,_,m,f⟩:=ar o hb e
   exact ZA (au c f)) _ _
 have z:(w'.setCell (T hb 4 Z) v).ownsRow w0.heap.size 9 1 v (making.length+1) (cu making++[U nm]):=aA D (fun e=>by
  obtain⟨_,_,m,f⟩:=ar D hb e
  exact absurd (au c f) (by decide)) _ _
 have b:KS w0.heap.size XN w' (w'.setCell (T hb 4 Z) v):=KS.setCell w' h.hbB (.inr fun g t fz l=>.inr (.inr (au l c))) v;refine⟨⟨h.bel.trans (ZB.to b).below,h.hbB,aB c v,p h.rmd (by decide) (by decide),?_,(by rw[a8,p9];simpa[cu] using z),fun k u=>?_,fun x Q9 C=>p (h.seen x Q9 C) (by decide) (by decide)⟩,ZB.to b⟩
 ·have o:w'.ownsRow w0.heap.size 9 1 or made.length (cu (made.map (·.name))):=dx h.ror fun k b=>by
   obtain⟨_,M,g,l⟩:=ar h.ror k b;exact A.block k M fun e=>h.apart k b e.symm
  exact aA o (fun e=>by
   obtain⟨_,_,m,f⟩:=ar o hb e
   exact absurd (au c f) (by decide)) _ _
 ·intro e
  rcases B with a | a
  ·exact h.apart k u (by rw[<-a];exact e)
  ·rw[a] at e
   cases e
   have:=(ar h.ror _ u).2.1;omega
theorem SI.pop {nm:ByteArray}{g cap:Nat}(h:SI w0 hb s0 s1 w (making++[nm]) made L md or (Y (N (T g 0 Z)) (making.length+1) cap)):SI w0 hb s0 s1 (w.setCell (T hb 4 Z) (Y (N (T g 0 Z)) making.length cap)) making made L md or (Y (N (T g 0 Z)) making.length cap)/\KS w0.heap.size XN w (w.setCell (T hb 4 Z) (Y (N (T g 0 Z)) making.length cap)):=by
 have b:∀ {size n:Nat} {i:TypeId} {j:QS} {o:List QS},w.ownsRow w0.heap.size i size j n o->89≠i->(w.setCell (T hb 4 Z) (Y (N (T g 0 Z)) making.length cap)).ownsRow w0.heap.size i size j n o:=fun f m=>aA f (fun e=>by
  obtain⟨_,_,cs2,l⟩:=ar f hb e
  exact m (au h.box l)) _ _
 have c:=h.rst;rw[a8,p9] at c;refine⟨⟨h.bel.setCell h.hbB _,h.hbB,aB h.box _,b h.rmd (by decide),b h.ror (by decide),b (ownsRow_pop (last:=[U nm]) (by simp[cu]) (by simpa[cu] using c)) (by decide),h.apart,fun x q p=>b (h.seen x q p) (by decide)⟩,KS.setCell w h.hbB (.inr fun cs t fz r=>.inr (.inr (au r h.box))) _⟩
end
theorem wQ {L:List SM}(h:L.Pairwise fun m b=>m.name≠b.name){i j:Nat}{m b:SM}(hi:L[i]?=N m)(q:L[j]?=N b)(e:m.name=b.name):i=j:=by
 rw[DC] at h;obtain⟨l,f⟩:=gM.1 hi;obtain⟨c,g⟩:=gM.1 q;rcases Nat.lt_trichotomy i j with p | o | n
 ·exact absurd (by rw[f,g];exact e) (h i j l c p)
 ·exact o
 ·exact absurd (by rw[f,g];exact e.symm) (h j i c l n)
theorem qN {L:List SM}(hn:L.Pairwise fun m f=>m.name≠f.name){m:SM}(g:m∈L){nm:ByteArray}(e:m.name=nm):∃ k,fI L nm=N k/\L[k]?=N m:=by
 obtain⟨k,b⟩:=KU g;refine⟨k,ut b (by rw[e];simp) fun j i hj c=>?_,b⟩;cases h:(i.name.toList == nm.toList) with
 | false=>rfl
 | true =>have:=wQ hn c b (by rw[bytes_beq h,e]);omega
section
variable {L:List SM}{making:List ByteArray}{made:List Ent}{nm:ByteArray}
theorem Fh (h:fA L making made){e:Ent}(f:bj made nm=N e):∃ k m,fI L nm=N k/\L[k]?=N m/\m.done=QR/\m.code=(dK e).code/\m.text=(dK e).text:=by obtain⟨h1,h2⟩:=gY f;obtain⟨m,g,j,i,n,l,_⟩:=h.got e h1;obtain⟨k,b,c⟩:=qN h.nod g (j.trans h2);exact⟨k,m,b,c,i,n,l⟩
theorem Fi (h:fA L making made){i:Nat}(hi:atL making nm=N i):∃ k m,fI L nm=N k/\L[k]?=N m/\m.done=QQ/\nm∈making:=by
 have c:=hi;unfold atL at c;obtain⟨f,h1,_⟩:=MM.1 c;have b:nm∈making:=by rw[<-bytes_beq h1];exact gj f
 obtain⟨m,l,o,n⟩:=h.mkg nm b;obtain⟨k,g,j⟩:=qN h.nod l o;exact⟨k,m,g,j,n,b⟩
theorem Aw (h:fA L making made)(g:bj made nm=Z)(h1:atL making nm=Z):fI L nm=Z/\∀ m∈L,m.name≠nm:=by
 have b:∀ m∈L,m.name≠nm:=fun m c e=>by
  rcases h.all m c with ⟨x,f,i⟩ | h2
  ·exact fR g x f (i.trans e)
  ·exact jI h1 _ h2 e
 refine⟨wO fun j m hj c=>?_,b⟩;cases h2:(m.name.toList == nm.toList) with
 | false=>rfl
 | true=>exact absurd (bytes_beq h2) (b m (IF c))
theorem rQ (h:fA L making made)(i:∀ m∈L,m.name≠nm){m:SM}(g:m.name=nm)(j:m.done=QQ):fA (L++[m]) (making++[nm]) made:=by
 refine⟨?_,by simp[h.len];omega,fun x n=>?_,fun t f=>?_,fun y c=>?_⟩
 ·rw[KT]
  exact⟨h.nod,List.pairwise_singleton _ _,fun a l b hb=>by rw[eT.1 hb,g];exact i a l⟩
 ·obtain⟨y,c,r⟩:=h.got x n
  exact⟨y,JK _ c,r⟩
 ·rcases hU.1 f with f | f
  ·obtain⟨y,c,r⟩:=h.mkg t f
   exact⟨y,JK _ c,r⟩
  ·exact⟨m,J4 _ (eT.2 rfl),by rw[g,eT.1 f],j⟩
 ·rcases hU.1 c with c | c
  ·exact(h.all y c).imp id fun h=>JK _ h
  ·rw[eT.1 c,g]
   exact .inr (J4 _ (eT.2 rfl))
theorem wR {f:List Ent}{k:Nat}{m b:SM}{x:Ent}(h:fA L (making++[nm]) f)(s:L[k]?=N m)(E:m.name=nm)(g:b.name=nm)(u:x.name=nm)(ZA:b.done=QR)(Q9:b.code=(dK x).code)(QZ:b.text=(dK x).text)(M:b.seen=x.looks)(K:∀ y∈f,y.name≠nm)(h1:atL making nm=Z):fA (L.set k b) making (f++[x]):=by
 have G:=(gM.1 s).1;have D:=(gM.1 s).2;have l:∀ y∈L,y.name≠nm->y∈L.set k b:=fun y c F=>by
  obtain⟨i,hi⟩:=KU c;refine IF (i:=i) ?_;rw[LZ fun e=>?_]
  ·exact hi
  ·subst e
   rw[s] at hi;cases hi
   exact F E
 have A:b∈L.set k b:=IF (KL G);refine⟨?_,by rw[JO,h.len];simp;omega,fun y c=>?_,fun t q=>?_,fun y c=>?_⟩
 ·have o:=h.nod
  rw[DC] at o ⊢;have p:∀ (i:Nat) (hi:i<(L.set k b).length),(L.set k b)[i].name=(L[i]'(by simpa using hi)).name:=fun i hi=>by
   rw[List.getElem_set];split
   ·rename_i e;subst e;rw[D,E,g]
   ·rfl
  intro i j hi ZB B;rw[p i hi,p j ZB];exact o i j (by simpa using hi) (by simpa using ZB) B
 ·rcases hU.1 c with c | c
  ·obtain⟨z,hz,n,r⟩:=h.got y c
   exact⟨z,l z hz (by rw[n];exact K y c),n,r⟩
  ·rw[eT.1 c]
   exact⟨b,A,by rw[g,u],ZA,Q9,QZ,M⟩
 ·obtain⟨z,hz,n,r⟩:=h.mkg t (JK _ q)
  exact⟨z,l z hz (by rw[n];exact jI h1 t q),n,r⟩
 ·rcases J7 c with C | rfl
  ·rcases h.all y C with ⟨z,hz,e⟩ | h2
   ·exact .inl ⟨z,JK _ hz,e⟩
   ·rcases hU.1 h2 with h2 | h2
    ·exact .inr h2
    ·exact .inl ⟨x,J4 _ (eT.2 rfl),by rw[u,eT.1 h2]⟩
  ·exact .inl ⟨x,J4 _ (eT.2 rfl),by rw[u,g]⟩
end
theorem oh {S:Spc}(h:SpcOk S){nm:ByteArray}{i:Nat}(hi:atI (nm0 S.f0) S.n0 nm=N i):atI (nm1 S.f1) S.n1 nm=Z:=by
 have b:=h.chk;unfold bw at b;split at b;· omega
 split at b;· omega
 split at b;· omega
 split at b;· omega
 split at b;· omega
 split at b;· omega
 rename_i c;obtain⟨h1,h2⟩:=bN hi;have:=iz (Bool.eq_false_iff.2 c) h1;rw[h2] at this;exact us this
end Go.Proofs.YtamacmnikdejeaaGreatDoor.Vp
namespace Go.Proofs.YtamacmnikdejeaaGreatDoor.Vp
open RowKit Ca
section
variable {w0:H}{S:Spc}{a0 a1:Option Addr}{c0 c1 hb:Nat}{md or st:QS}{making:List ByteArray}{made:List Ent}{L:List SM}
theorem Dw (w:H)(nm:ByteArray)(h:SI w0 hb (Y a0 S.n0 c0) (Y a1 S.n1 c1) w making made L md or st)(r:L.length<=100000)(k:Nat)(m:SM)(h1:fI L nm=N k)(h2:L[k]?=N m)(t:m.done=QR):Calls Tryz.prog 91 #[.pointer (N (T hb 0 Z)),U nm] w fun e w'=>e=QU (QV #[I J m.code,U m.text,Y Z 0 0])/\SI w0 hb (Y a0 S.n0 c0) (Y a1 S.n1 c1) w' making made L md or st/\KS w0.heap.size XN w w':=by
 have q:=ae ((q9 w).alloc ly (Q #[I J 0,U ⟨#[]⟩,Y Z 0 0] 37));have kr:Hid ((w.alloc (Q #[I J 0,U ⟨#[]⟩,Y Z 0 0] 37)).heap[w.heap.size]?=N (Q #[I J 0,U ⟨#[]⟩,Y Z 0 0] 37 (0,0))):=cM _ _;have c:=ae (h.below q ly);have b:w0.heap.size<=w.heap.size:=h.lt;have hkl:=(gM.1 h2).1;obtain⟨g,cap,cur,rfl,-⟩:=h.rmd.2.resolve_left (fun h=>by omega);have z:dv (fI L nm)=(k:Int):=by rw[h1];rfl
 have o:=ae h2;obtain⟨n,hn⟩:∃ n,n=L.length:=⟨_,rfl⟩
 have C:=ae hn;have hkn:k<n:=by omega
 clear h h1 h2 hn;go_enter Tryz.func91,Tryz.ntmps91;go_wp2_with fail;generalize w.alloc (Q #[I J 0,U ⟨#[]⟩,Y Z 0 0] 37)=f at q kr c ⊢;refine(iA f nm c r).mono ?_;rintro e w1 ⟨rfl,p⟩;rw[p];clear p;rw[z];obtain⟨hbl,-,-,A,-⟩:=c.box.facts;have d1:f.cell? (T g (k*6+1) Z)=N (I J m.code):=bU c.rmd o 1 (by omega) rfl;have d2:f.cell? (T g (k*6+2) Z)=N (U m.text):=bU c.rmd o 2 (by omega) rfl;have d3:f.cell? (T g (k*6+3) Z)=N (Y Z 0 0):=bU c.rmd o 3 (by omega) rfl;have d5:f.cell? (T g (k*6+5) Z)=N (QT QR):=by have:=bU c.rmd o.out 5 (by omega) (u:=QT m.done) rfl;rw[t] at this;exact this
 rw[<-C.out] at A;obtain⟨rl,r0,r1,y,l⟩:=aU kr;have rf0:=l 0;have rf1:=l 1;have rf2:=l 2;have hI0:(0:Int)<=(k:Int):=by omega
 have hI1:(k:Int)<(n:Int):=by omega
 clear l;go_wp2_with fail;refine bp (v:=QV #[I J m.code,U m.text,Y Z 0 0]) (by simp[results,Tryz.results91,go_sem,r0,r1,y]) rfl ⟨rfl,?_,?_⟩
 ·have B:=c.setOff kr.out ⟨by decide,by decide,by decide,by decide⟩ b 0 (I J m.code)
  have s:=aB kr.out (j:=0) (I J m.code);have x:=B.setOff s ⟨by decide,by decide,by decide,by decide⟩ b 1 (U m.text);exact x.setOff (aB s (j:=1) (U m.text)) ⟨by decide,by decide,by decide,by decide⟩ b 2 (Y Z 0 0)
 ·refine((((KS.of_below (X:=XN) q ly b).trans (KS.setCell (X:=fun i=>i=w.heap.size) _ b (Or.inl rfl) _) ?_).trans (KS.setCell (X:=fun i=>i=w.heap.size) _ b (Or.inl rfl) _) ?_).trans (KS.setCell (X:=fun i=>i=w.heap.size) _ b (Or.inl rfl) _) ?_)
  all_goals
   intro i hi h;have e2:i=w.heap.size:=h;omega
theorem oY {w:H}{b g cap n:Nat}{M:List ByteArray}(h:w.ownsRow b 9 1 (Y (N (T g 0 Z)) n cap) n (cu M)){i:Nat}{t:ByteArray}(c:M[i]?=N t):w.cell? (T g i Z)=N (U t):=by have h1:=h.cells (g:=g) rfl i (U t) (by rw[cu,IN,c];rfl);rw[addr_add,DN] at h1;exact h1
theorem vM (C:lZ w0 S a0 a1)(w:H)(nm:ByteArray)(h:SI w0 hb (Y a0 S.n0 c0) (Y a1 S.n1 c1) w making made L md or st)(GQ:L.length<=100000)(DQ:making.length<=60)(k:Nat)(m:SM)(h1:fI L nm=N k)(h2:L[k]?=N m)(hd:m.done=QQ)(tg z:Nat)(ht:atI (nm1 S.f1) S.n1 nm=N tg)(hi:atL making nm=N z):Calls Tryz.prog 91 #[.pointer (N (T hb 0 Z)),U nm] w fun e w'=>jN w0 hb (Y a0 S.n0 c0) (Y a1 S.n1 c1) making L w e w' (.inr (.inl (making.drop z))):=by
 obtain⟨i1,GI,Ha,GU,GW⟩:=fw iC;have A0:=ae ((q9 w).alloc ly (Q #[I J 0,U ⟨#[]⟩,Y Z 0 0] 37));have kr:Hid ((w.alloc (Q #[I J 0,U ⟨#[]⟩,Y Z 0 0] 37)).heap[w.heap.size]?=N (Q #[I J 0,U ⟨#[]⟩,Y Z 0 0] 37 (0,0))):=cM _ _;have R:=ae (h.below A0 ly);have l:w0.heap.size<=w.heap.size:=h.lt;have hkl:=(gM.1 h2).1;obtain⟨g,cap,cur,rfl,-⟩:=h.rmd.2.resolve_left (fun h=>by omega);have e1:dv (fI L nm)=(k:Int):=by rw[h1];rfl
 have K:dv (atI (nm1 S.f1) S.n1 nm)=(tg:Int):=by rw[ht];rfl
 have GT:z<making.length/\(∃ x,making[z]?=N x/\(x.toList == nm.toList)=QR)/\∀ (j:Nat) (y:ByteArray),j<z->making[j]?=N y->(y.toList == nm.toList)=QQ:=by unfold atL at hi;obtain⟨q1,q2,q3⟩:=MM.1 hi;refine⟨q1,⟨_,gq q1,q2⟩,fun j y hj hy=>?_⟩;have:=q3 j hj;rw[MZ] at this;rw[(gM.1 hy).2] at this;exact this
 obtain⟨Fm,⟨xi,sm,ld⟩,fd⟩:=GT;obtain⟨Q2,f,cus,rfl,n8⟩:=h.rst.2.resolve_left (fun h=>by omega);have GK:making.length<=f:=n8.2.2.1;have H2:=ae h2;have GE:=ae sm;have GN:=ae fd;have GF:=ae ld;obtain⟨n,hn⟩:∃ n,n=L.length:=⟨_,rfl⟩
 have HN:=ae hn;have hkn:k<n:=by omega
 obtain⟨c,QX⟩:∃ c,c=making.length:=⟨_,rfl⟩
 have B:=ae QX;have CC:=ae C;have hsm:=C.ok.small;rw[<-QX] at Fm DQ GK;clear h h1 h2 hn C ht hi n8 QX sm ld fd;go_enter Tryz.func91,Tryz.ntmps91;go_wp2_with fail;generalize w.alloc (Q #[I J 0,U ⟨#[]⟩,Y Z 0 0] 37)=W0 at A0 kr R ⊢;refine(iA W0 nm R GQ).mono ?_;rintro e w1 ⟨rfl,n9⟩;rw[n9];clear n9;rw[e1];obtain⟨P,b0,b1,b2,-⟩:=R.box.facts;have d5:W0.cell? (T g (k*6+5) Z)=N (QT QQ):=by have:=bU R.rmd H2.out 5 (by omega) (u:=QT m.done) rfl;rw[hd] at this;exact this
 rw[<-HN.out] at b2;have hI0:(0:Int)<=(k:Int):=by omega
 have hI1:(k:Int)<(n:Int):=by omega
 go_wp2_with fail;refine(eu a0 S.n0 c0 a1 S.n1 c1 S.f0 nm W0 (by omega) (CC.src.below R.bel ly)).mono ?_;rintro e w1 ⟨rfl,A⟩;have S1:=ae (R.below A ly);have th:Hid (w1.heap[w.heap.size]?=_):=(A.block _ (ah kr)).trans kr;have K1:=ae (A0.trans (A.mono A0.size));clear A b0 b1 b2 P d5;obtain⟨P,b0,b1,-⟩:=S1.box.facts;go_wp2_with fail;refine(eS a0 S.n0 c0 a1 S.n1 c1 S.f1 nm w1 (by omega) (CC.tgt.below S1.bel ly)).mono ?_;rintro e QZ ⟨he,A⟩;rw[K] at he;subst he;have r:=ae (S1.below A ly);have ur:Hid (QZ.heap[w.heap.size]?=_):=(A.block _ (ah th)).trans th;have K2:=ae (K1.trans (A.mono K1.size));clear A b0 b1 P;obtain⟨P,-,-,-,-,b4,b5,b6,b7,b8,QW⟩:=r.box.facts;have GO:=QW 5;have GH:=QW 6;have GM:=QW 7;have GL:=QW 8;rw[<-B.out] at b4;clear QW;have hT0:(0:Int)<=(tg:Int):=by omega
 go_wp2_with fail;go_loop [9] (fun i=>∃ j:Nat,j<=z/\i=I J j) (fun i=>z - (intOf i).toNat);case atStart=>exact⟨0,by omega,rfl⟩
 case round =>
  obtain⟨j,hj,rfl⟩:=hrel;obtain⟨y,hy⟩:∃ y,making[j]?=N y:=⟨_,gq (by have:=B.out;omega)⟩
  have dj:QZ.cell? (T Q2 j Z)=N (U y):=oY r.rst hy;have hjm:(j:Int)<(c:Int):=by omega
  have HY:=ae hy;clear hy;by_cases GV:j<z
  ·have G8:=GN.out j y GV HY.out
   have HNE:=ae G8;go_wp2;exact⟨⟨j+1,by omega,by go_num⟩,by simp[intOf];omega⟩
  ·obtain rfl:j=z:=by omega
   have hye:(y.toList == nm.toList)=QR:=by
    have:=HY.out;rw[GE.out] at this;cases this
    exact GF
   go_upto_region 22 with fail;clear dj b4 b5 b6 b7 b8 GO GH GM GL;have ro:=ae (aB r.box (j:=8) (QT QR))
   have R3:Hid ((QZ.setCell (T hb 8 Z) (QT QR)).ownsRow w0.heap.size 9 1 (Y (N (T Q2 0 Z)) making.length f) making.length (cu making)):=aA r.rst (fun e=>by
    obtain⟨_,_,mv,D⟩:=ar r.rst hb e
    exact absurd (au r.box D) (by decide)) _ _
   have hbw:hb≠w.heap.size:=fun e=>absurd (au r.box (e ▸ ur.out)) (by decide);have O:Hid ((QZ.setCell (T hb 8 Z) (QT QR)).heap[w.heap.size]?=_):=(qh _ _ _ _ (Ne.symm hbw)).trans ur;have Q0:Hid (KS w0.heap.size XN w (QZ.setCell (T hb 8 Z) (QT QR))):=(KS.of_below (X:=XN) K2 ly l).to (KS.setCell QZ r.hbB (.inr fun f t fz F=>.inr (.inr (au F r.box))) _);have V:w0.heap.size<=hb:=r.hbB;generalize QZ.setCell (T hb 8 Z) (QT QR)=b at ro R3 O Q0 ⊢;have M:Hid (ShBox b hb (Y a0 S.n0 c0) (Y a1 S.n1 c1) (Y (N (T g 0 Z)) L.length cap) or (Y (N (T Q2 0 Z)) making.length f) 0 ⟨#[]⟩ (Y Z 0 0) QR):=ro.out;obtain⟨Fd,-,-,-,-,b4,-⟩:=M.facts;rw[<-B.out] at b4;have LO:=ae (kZ b 9 1);have A4:=ae ((q9 b).alloc ly (Q #[] 9));have GP:Hid (∀ q u,(cu (making.drop j))[q]?=N u->(b.alloc (Q #[] 9)).cell? (((T Q2 j Z):Addr).add q)=N u):=fun q u hq=>by have h1:=(own_below R3 A4 ly).cells (g:=Q2) rfl (j+q) u (by rw[<-hq,cu,cu,IN,IN,List.getElem?_drop]);rw[addr_add,DN] at h1;rw[addr_add];exact h1
   have hjc:¬ f=j:=by omega
   have hI2:(0:Int)<=(j:Int):=by omega
   have hI3:(j:Int)<=(c:Int):=by omega
   have hI4:(c:Int)<=(f:Int):=by omega
   have qr:(cu (making.drop j)).length=(c - j)*1:=by rw[cu,KO,JZ,<-B.out,Nat.mul_one]
   have GS:=ae qr;have aq:∀ u∈cu (making.drop j),u.oneCell'=QR:=fun u hu=>by rw[cu,JQ] at hu;obtain⟨t,_,rfl⟩:=hu;rfl
   have Fk:=ae aq;clear qr aq;have HG:Hid (∀ p:H,(b.alloc (Q #[] 9)).grownBy p (N b.heap.size)->p.heap[hb]?=b.heap[hb]?/\p.heap[w.heap.size]?=b.heap[w.heap.size]?):=fun p hg=>by
    have hz:(b.alloc (Q #[] 9)).heap.size=b.heap.size+1:=by simp
    have GJ:=ah O.out;exact⟨(hg.block hb (by omega) (fun e=>by have K:hb=b.heap.size:=ES e;omega)).trans (A4.block hb Fd),(hg.block w.heap.size (by omega) (fun e=>by have K:w.heap.size=b.heap.size:=ES e;omega)).trans (A4.block _ GJ)⟩
   have QY:b.heap.size<=(b.alloc (Q #[] 9)).heap.size:=by simp
   have GD:(0+(c - j))*16<=140737488355328:=by omega
   have GC:0+(c - j)<=maxLen:=by unfold maxLen;omega
   have Fn:0+(c - j)≠0:=by omega
   go_wp2_with (first
    | (at_builtin;refine bv _ rfl (.tmp 129) (.tmp 135) 35 rfl b.heap.size 9 i1 (U ⟨#[]⟩) 1 16 Tryz.underlying35 GI Ha GU GW rfl (by decide) (Y (N (T b.heap.size 0 Z)) 0 0) 0 [] (by simp[Act.eval]) LO.out (T Q2 j Z) (c - j) (f - j) (cu (making.drop j)) (by simp[Act.eval]) GS.out GP.out Fk.out GC GD QY ?_;intro v4 p E o GY;have O4:=ae E;have At:=ae (HG p o).1;have DE:=ae (HG p o).2;have G4:=ae o;obtain⟨ZA,c4,cu4,rfl,Hc⟩:=E.2.resolve_left (fun h=>Fn h.2);clear Hc E o GY;obtain⟨hbl4,-,-,-,-,-,f5,f6,f7,-,ff⟩:=(ShBox.blk M At).facts;have ff5:=ff 5;have ff6:=ff 6;have ff7:=ff 7;obtain⟨rl,r0,r1,r2,rf⟩:=aU (DE.trans O);have rf0:=rf 0;have rf1:=rf 1;have rf2:=rf 2;have hbw2:¬ w.heap.size=hb:=(fun e=>hbw e.symm);have ZB:¬ hb=w.heap.size:=hbw;clear ff rf)
    | fail)
   refine bp (v:=QV #[I J 6,U ⟨#[]⟩,Y (N (T ZA 0 Z)) (c - j) c4]) (by simp[results,Tryz.results91,go_sem,r0,r1,r2]) rfl ?_;have la:(making.drop j).length=c - j:=by rw[JZ,<-B.out]
   have bt:=At.trans M.out;have Bk:=aB bt (j:=5) (I J 6);have ph:=aB Bk (j:=6) (U ⟨#[]⟩);have Hb:=aB ph (j:=7) (Y (N (T ZA 0 Z)) (c - j) c4);have Q9:(Value.slice (N (T ZA 0 Z)) (c - j) c4).ownBlock≠N hb:=fun e=>by obtain⟨_,_,mv,D⟩:=ar O4 hb (by simpa[Value.ownBlock] using e);exact absurd (au bt D) (by decide)
   have G:(Value.slice (N (T ZA 0 Z)) (c - j) c4).ownBlock≠N w.heap.size:=fun e=>by obtain⟨_,_,mv,D⟩:=ar O4 w.heap.size (by simpa[Value.ownBlock] using e);exact absurd (au (DE.trans O) D) (by decide)
   have o4:p.ownsRow w0.heap.size 9 1 (Y (N (T ZA 0 Z)) (c - j) c4) (c - j) (cu (making.drop j)):=by have h1:=O4.out;rw[DN,JT] at h1;exact aE h1 (j4 l Q0.below.size)
   have k4:KS w0.heap.size XN w p:=(Q0.to (KS.of_below (X:=XN) A4 ly (j4 l Q0.below.size))).to (KS.of_grown G4 (j4 (j4 l Q0.below.size) QY) fun q hq=>by
    have K:q=b.heap.size:=(ES hq).symm;refine⟨by rw[K];exact j4 l Q0.below.size,.inr fun f t fz F=>?_⟩;rw[K] at F
    exact .inl (au F (cM b _)))
   have s:∀ (W:H) (f:Array QS) (t:TypeId) (fz:Nat × Nat),W.heap[hb]?=p.heap[hb]?∨(∃ c2,W.heap[hb]?=N (Q c2 89 (0,0)))->W.heap[hb]?=N (Q f t fz)->t=9∨t=161∨t=89:=fun W f t fz hW F=>by
    rcases hW with hW | ⟨c2,hW⟩
    ·exact .inr (.inr (au F (hW.trans bt)))
    ·exact .inr (.inr (au F hW))
   refine⟨N (T ZA 0 Z),c4,by rw[la];rfl,⟨_,_,_,_,_,(qh _ _ _ _ ZB).trans ((qh _ _ _ _ ZB).trans ((qh _ _ _ _ ZB).trans (by rw[la];exact Hb))),?_⟩,?_⟩
   ·show World.ownsRow _ _ _ _ _ (making.drop j).length _
    rw[la];exact aA (aA (aA (aA (aA (aA o4 Q9 _ _) Q9 _ _) Q9 _ _) G _ _) G _ _) G _ _
   ·have k7:=((k4.to (KS.setCell (X:=XN) p V (.inr fun f t fz=>s _ f t fz (.inl rfl)) (I J 6) (j:=5))).to (KS.setCell (X:=XN) _ V (.inr fun f t fz=>s _ f t fz (.inr ⟨_,Bk⟩)) (U ⟨#[]⟩) (j:=6))).to (KS.setCell (X:=XN) _ V (.inr fun f t fz=>s _ f t fz (.inr ⟨_,ph⟩)) (Y (N (T ZA 0 Z)) (c - j) c4) (j:=7))
    refine((k7.trans (KS.setCell (X:=fun i=>i=w.heap.size) _ l (Or.inl rfl) _) ?_).trans (KS.setCell (X:=fun i=>i=w.heap.size) _ l (Or.inl rfl) _) ?_).trans (KS.setCell (X:=fun i=>i=w.heap.size) _ l (Or.inl rfl) _) ?_;all_goals
     intro i hi h;have K:i=w.heap.size:=h;omega
end
def dB (nm:ByteArray):SM:=⟨nm,0,⟨#[]⟩,[],Y Z 0 0,QQ⟩
theorem mg (w:H)(i l g f c m:QS)(t:TypeId):∀ j u,[i,l,g,f,c,m][j]?=N u->(w.alloc (Q #[i,l,g,f,c,m] t)).cell? (((T w.heap.size 0 Z):Addr).add j)=N u:=by
 intro j u h;rw[addr_add];have hj:j<6:=by
  rcases KP j 6 with b | b
  ·exact b
  ·rw[J2 (by simp;omega)] at h;cases h
 rcases(show j=0∨j=1∨j=2∨j=3∨j=4∨j=5 by omega) with rfl | rfl | rfl | rfl | rfl | rfl;all_goals
  simp at h;subst h;simp
theorem mh (w:H)(v:QS)(t:TypeId):∀ j u,[v][j]?=N u->(w.alloc (Q #[v] t)).cell? (((T w.heap.size 0 Z):Addr).add j)=N u:=by
 intro j u h;rw[addr_add];have c:j=0:=by
  rcases KP j 1 with b | b
  ·omega
  ·rw[J2 (by simp;omega)] at h;cases h
 subst c;simp at h;subst h;simp
theorem eU {w:H}{b size n:Nat}{e:TypeId}{v:QS}{c:List QS}(h:w.ownsRow b e size v n c):∃ a cap,v=Y a n cap:=by
 obtain⟨_,⟨rfl,rfl⟩ | ⟨g,cap,cur,rfl,_⟩⟩:=h
 ·exact⟨Z,0,rfl⟩
 ·exact⟨_,_,rfl⟩
theorem KS.fresh {B:Nat}{W w:H}(h:KS B XN W w){b:Nat}(hb:W.heap.size<=b)(f:B<=W.heap.size)(j:Nat)(u:QS):KS B XN W (w.setCell (T b j Z) u) :=
 h.trans (KS.setCell (X:=fun i=>i=b) w (j4 f hb) (Or.inl rfl) u) fun i hi c=>by have e2:i=b:=c;omega
section
variable {w0 w:H}{hb:Nat}{s0 s1 or st:QS}{making:List ByteArray}{made:List Ent}{L:List SM}
theorem SI.upd' {g cap k j QZ:Nat}{m m':SM}{u:QS}(f:L.length=QZ)(h:SI w0 hb s0 s1 w making made L (Y (N (T g 0 Z)) QZ cap) or st)(b:L[k]?=N m)(l:j<6)(i:smV m'=(smV m).set j u)(c:m'.done=QR->w.ownsRow w0.heap.size 164 3 m'.sv m'.seen.length (eB m'.seen)):SI w0 hb s0 s1 (w.setCell (T g (k*6+j) Z) u) making made (L.set k m') (Y (N (T g 0 Z)) QZ cap) or st/\KS w0.heap.size XN w (w.setCell (T g (k*6+j) Z) u)/\(L.set k m')[k]?=N m'/\(L.set k m').length=QZ:=by subst f;have:=h.upd b l i c;rw[JO] at this;exact⟨this.1,this.2,KL (gM.1 b).1,JO⟩
theorem SI.told {g cap k QZ:Nat}{m:SM}(q:L.length=QZ)(h:SI w0 hb s0 s1 w making made L (Y (N (T g 0 Z)) QZ cap) or st)(r:L[k]?=N m)(n:m.done=QQ)(b:Int)(c:ByteArray):SI w0 hb s0 s1 (((w.setCell (T g (k*6+1) Z) (I J b)).setCell (T g (k*6+1+1) Z) (U c)).setCell (T g (k*6+1+2) Z) (Y Z 0 0)) making made (L.set k ⟨m.name,b,c,m.seen,m.sv,QQ⟩) (Y (N (T g 0 Z)) QZ cap) or st/\KS w0.heap.size XN w (((w.setCell (T g (k*6+1) Z) (I J b)).setCell (T g (k*6+1+1) Z) (U c)).setCell (T g (k*6+1+2) Z) (Y Z 0 0))/\(L.set k ⟨m.name,b,c,m.seen,m.sv,QQ⟩)[k]?=N ⟨m.name,b,c,m.seen,m.sv,QQ⟩/\(L.set k ⟨m.name,b,c,m.seen,m.sv,QQ⟩).length=QZ:=by obtain⟨a1,s,A,p⟩:=h.upd' q r (j:=1) (by omega) (u:=I J b) (m':=⟨m.name,b,m.text,m.seen,m.sv,QQ⟩) (by simp[smV,n]) (fun h=>by cases h);obtain⟨t,o,x,y⟩:=a1.upd' p A (j:=2) (by omega) (u:=U c) (m':=⟨m.name,b,c,m.seen,m.sv,QQ⟩) rfl (fun h=>by cases h);obtain⟨l,z,i,f⟩:=t.upd' y x (j:=3) (by omega) (m':=⟨m.name,b,c,m.seen,m.sv,QQ⟩) (u:=Y Z 0 0) rfl (fun h=>by cases h);rw[NT,NT] at l i f;exact⟨l,(s.to o).to z,i,f⟩
end
section
variable {w0:H}{S:Spc}{a0 a1:Option Addr}{c0 c1 hb:Nat}{md or st:QS}{making:List ByteArray}{made:List Ent}{L:List SM}
theorem Ax (C:lZ w0 S a0 a1)(w:H)(nm:ByteArray)(h:SI w0 hb (Y a0 S.n0 c0) (Y a1 S.n1 c1) w making made L md or st)(GN:L.length<=100000)(Hb:made.length<=100000)(h1:fI L nm=Z)(h2:atI (nm0 S.f0) S.n0 nm=Z)(h3:atI (nm1 S.f1) S.n1 nm=Z):Calls Tryz.prog 91 #[.pointer (N (T hb 0 Z)),U nm] w fun e w'=>∃ GP GW,e=QU (QV #[I J 4,U nm,Y Z 0 0])/\SI w0 hb (Y a0 S.n0 c0) (Y a1 S.n1 c1) w' making (made++[⟨nm,2,0,⟨#[]⟩,0,[]⟩]) ((L++[dB nm]).set L.length ⟨nm,4,nm,[],Y Z 0 0,QR⟩) GP GW st/\KS w0.heap.size XN w w':=by
 obtain⟨im,GC,GS,GH,Ha⟩:=fw ma;obtain⟨i1,GI,Hd,GQ,GV⟩:=fw iC;have A0:=ae ((q9 w).alloc ly (Q #[I J 0,U ⟨#[]⟩,Y Z 0 0] 37));have kr:Hid ((w.alloc (Q #[I J 0,U ⟨#[]⟩,Y Z 0 0] 37)).heap[w.heap.size]?=N (Q #[I J 0,U ⟨#[]⟩,Y Z 0 0] 37 (0,0))):=cM _ _;have S0:=ae (h.below A0 ly);have y:w0.heap.size<=w.heap.size:=h.lt;have e1:dv (fI L nm)=-1:=by rw[h1];rfl
 obtain⟨am,cm,rfl⟩:=eU h.rmd;obtain⟨n,hn⟩:∃ n,n=L.length:=⟨_,rfl⟩
 have QZ:=ae hn;have CC:=ae C;have hsm:=C.ok.small;have hn1:n<=100000:=by omega
 clear h h1 hn C;have es:dv (atI (nm0 S.f0) S.n0 nm)=-1:=by rw[h2];rfl
 have et:dv (atI (nm1 S.f1) S.n1 nm)=-1:=by rw[h3];rfl
 clear h2 h3;go_enter Tryz.func91,Tryz.ntmps91;go_wp2_with fail;generalize w.alloc (Q #[I J 0,U ⟨#[]⟩,Y Z 0 0] 37)=s at A0 kr S0 ⊢;refine(iA s nm S0 GN).mono ?_;rintro e w1 ⟨rfl,qr⟩;rw[qr,e1];clear qr e1;obtain⟨r,-,-,G,-⟩:=S0.box.facts;rw[<-QZ.out] at G;have A1:=ae ((q9 s).alloc ly (Q #[U nm,I J 0,U ⟨#[]⟩,Y Z 0 0,Y Z 0 0,QT QQ] 161));have SA:=ae (S0.below A1 ly);have RM:=ae (by have h:=SA.rmd;rw[<-QZ.out] at h;exact h);have GY:(s.alloc (Q #[U nm,I J 0,U ⟨#[]⟩,Y Z 0 0,Y Z 0 0,QT QQ] 161)).heap.size=s.heap.size+1:=by simp
 have HG:Hid (∀ g:H,(s.alloc (Q #[U nm,I J 0,U ⟨#[]⟩,Y Z 0 0,Y Z 0 0,QT QQ] 161)).grownBy g (Value.slice am n cm).ownBlock->g.heap[hb]?=(s.alloc (Q #[U nm,I J 0,U ⟨#[]⟩,Y Z 0 0,Y Z 0 0,QT QQ] 161)).heap[hb]?):=fun g hg=>hg.block hb (by omega) fun e=>by obtain⟨_,_,cs,hc⟩:=ar RM hb e.symm;exact absurd (au SA.box hc) (by decide)
 have Fn:w0.heap.size<=(s.alloc (Q #[U nm,I J 0,U ⟨#[]⟩,Y Z 0 0,Y Z 0 0,QT QQ] 161)).heap.size:=SA.lt;have hz1':s.heap.size<(s.alloc (Q #[U nm,I J 0,U ⟨#[]⟩,Y Z 0 0,Y Z 0 0,QT QQ] 161)).heap.size:=by omega
 clear GY
 go_upto_region 7 with (first
  | (at_builtin;refine bv _ rfl (.tmp 46) (.tmp 49) 87 rfl w0.heap.size 161 im (QV #[U ⟨#[]⟩,I J 0,U ⟨#[]⟩,Y Z 0 0,Y Z 0 0,QT QQ]) 6 96 Tryz.underlying87 GC GS GH Ha rfl (by decide) (Y am n cm) n (L.flatMap smV) (by simp[Act.eval]) RM.out (T s.heap.size 0 Z) 1 1 [U nm,I J 0,U ⟨#[]⟩,Y Z 0 0,Y Z 0 0,QT QQ] (by simp[Act.eval]) rfl (mg s _ _ _ _ _ _ _) (by simp[Value.oneCell']) (by unfold maxLen;omega) (by omega) Fn ?_;intro v2 g l c QY;have O2:=ae l;have G2:=ae c;have DQ:=ae (HG g c);obtain⟨b,z,cu2,rfl,GE⟩:=l.2.resolve_left (fun h=>by omega);clear GE l c QY;obtain⟨Fk,-,-,f2,-,-,-,-,-,-,ff⟩:=(ShBox.blk SA.box DQ).facts;have GT:=ff 2;clear ff)
  | fail)
 have SX:=ae (SA.addL (m:=dB nm) (w':=g) (v:=Y (N (T b 0 Z)) (n+1) z) (by rw[<-QZ.out];exact G2) (by rw[<-QZ.out];exact O2) rfl);have QW:=ae SX.1;have K3:Hid (KS w0.heap.size XN w (g.setCell (T hb 2 Z) (Y (N (T b 0 Z)) (n+1) z))):=((KS.of_below (X:=XN) A0 ly y).to (KS.of_below A1 ly S0.lt)).to SX.2;have P:Hid ((g.setCell (T hb 2 Z) (Y (N (T b 0 Z)) (n+1) z)).heap[w.heap.size]?=N (Q #[I J 0,U ⟨#[]⟩,Y Z 0 0] 37 (0,0))):=by have h0:=(A1.block _ (ah kr)).trans kr;exact(SX.2.blk _ _ _ _ h0 (by decide) (by decide) (by decide) fun h=>h).trans h0
 have F:(L++[dB nm]).length=n+1:=by rw[a8,p9,<-QZ.out]
 have Q2:Hid ((L++[dB nm])[n]?=N (dB nm)):=by rw[QZ.out];show _=_;rw[p8 ly,NE];rfl
 clear SX f2 GT Fk G r RM SA A1 HG O2 G2 DQ;generalize g.setCell (T hb 2 Z) (Y (N (T b 0 Z)) (n+1) z)=W3 at QW K3 P ⊢;obtain⟨r,b0,b1,-⟩:=QW.box.facts;go_wp2_with fail;refine(eu a0 S.n0 c0 a1 S.n1 c1 S.f0 nm W3 (by omega) (CC.src.below QW.bel ly)).mono ?_;rintro e w4 ⟨he,D⟩;rw[es] at he;subst he;have S4:=ae (QW.below D ly);have aq:Hid (w4.heap[w.heap.size]?=_):=(D.block _ (ah P)).trans P;have K4:=ae (K3.to (KS.of_below (X:=XN) D ly QW.lt));clear D b0 b1 r QW K3 P;obtain⟨r,b0,b1,-⟩:=S4.box.facts;go_wp2_with fail;refine(eS a0 S.n0 c0 a1 S.n1 c1 S.f1 nm w4 (by omega) (CC.tgt.below S4.bel ly)).mono ?_;rintro e M ⟨he,D⟩;rw[et] at he;subst he;have S5:=ae (S4.below D ly);have mv:Hid (M.heap[w.heap.size]?=N (Q #[I J 0,U ⟨#[]⟩,Y Z 0 0] 37 (0,0))):=(D.block _ (ah aq)).trans aq;have K5:=ae (K4.to (KS.of_below (X:=XN) D ly S4.lt));clear D b0 b1 r S4 K4 aq A0 S0 kr;have A6:=ae ((q9 M).alloc ly (Q #[I J 4,U nm,Y Z 0 0] 37));have ZA:Hid ((M.alloc (Q #[I J 4,U nm,Y Z 0 0] 37)).heap[M.heap.size]?=N (Q #[I J 4,U nm,Y Z 0 0] 37 (0,0))):=cM _ _;go_upto_region 13 with fail;generalize M.alloc (Q #[I J 4,U nm,Y Z 0 0] 37)=o at A6 ZA ⊢;have S6:=ae (S5.below A6 ly);have bt:Hid (o.heap[w.heap.size]?=N (Q #[I J 0,U ⟨#[]⟩,Y Z 0 0] 37 (0,0))):=(A6.block _ (ah mv)).trans mv;have K6:=ae (K5.to (KS.of_below (X:=XN) A6 ly S5.lt));obtain⟨rb,At⟩:∃ rb,rb=M.heap.size:=⟨_,rfl⟩
 rw[<-At] at ZA ⊢;have hrbw:w.heap.size<=rb:=by have:=K5.below.size;omega
 clear At A6 S5 mv K5;obtain⟨r,-,-,G,-⟩:=S6.box.facts;obtain⟨rl,r0,r1,r2,-⟩:=aU ZA;obtain⟨hg2B,hg2l,GF,ld⟩:=ar S6.rmd b rfl;have fd:=ae ld;have R6:=ae (by have h:=S6.rmd;rw[F] at h;exact h);have q1:o.cell? (T b (n*6+1) Z)=N (I J 0):=bU (by rw[F];exact R6) Q2 1 (by omega) rfl;have q2:o.cell? (T b (n*6+1+1) Z)=N (U ⟨#[]⟩):=bU (by rw[F];exact R6) Q2 2 (by omega) rfl;have q3:o.cell? (T b (n*6+1+2) Z)=N (Y Z 0 0):=bU (by rw[F];exact R6) Q2 3 (by omega) rfl;have qf:∀ j,o.frozen? (T b j Z)=QQ:=fun j=>by simp[World.frozen?,ld]
 have Hc:=qf (n*6+1);have GM:=qf (n*6+1+1);have GO:=qf (n*6+1+2);clear qf ld;have hIn:(n:Int)<(n:Int)+1:=by omega
 have ZB:b≠hb:=by intro e;have h:=fd.out;rw[e] at h;exact absurd (au h S6.box) (by decide)
 have f:b≠rb:=by intro e;have h:=fd.out;rw[e] at h;exact absurd (au h ZA) (by decide)
 refine wp_region_held_drew (S:=fun V=>V.cell? (T hb 2 Z)=N (Y (N (T b 0 Z)) (n+1) z)/\V.cell? (T rb 0 Z)=N (I J 4)/\V.cell? (T rb 1 Z)=N (U nm)/\V.cell? (T rb 2 Z)=N (Y Z 0 0)) (by as_aux_lemma=>kernel_rfl) ⟨G,r0,r1,r2⟩ (fun hS=>?_);have HS:=ae hS;clear hS
 iterate 8
  first | refine aV 0 (v:=?_) rfl rfl (by as_aux_lemma=>kernel_rfl) (fun _ _ _ h=>h) rfl ?_ HS ?_ | refine aV 4 (v:=?_) rfl rfl (by as_aux_lemma=>kernel_rfl) (fun _ _ _ h=>h) rfl ?_ HS ?_
  rotate_left
  ·(intro wz GD;obtain⟨s0,s1,s2,s3⟩:=GD;go_simp)
   (try with_reducible rfl)
  (try simp only[Act.put,nzL])
 have E:=ae (S6.told F Q2 rfl 4 nm)
 have DE:Hid ((((o.setCell (T b (n*6+1) Z) (I J 4)).setCell (T b (n*6+1+1) Z) (U nm)).setCell (T b (n*6+1+2) Z) (Y Z 0 0)).drew.cell? (T hb 2 Z)=N (Y (N (T b 0 Z)) (n+1) z)/\(((o.setCell (T b (n*6+1) Z) (I J 4)).setCell (T b (n*6+1+1) Z) (U nm)).setCell (T b (n*6+1+2) Z) (Y Z 0 0)).drew.cell? (T rb 0 Z)=N (I J 4)/\(((o.setCell (T b (n*6+1) Z) (I J 4)).setCell (T b (n*6+1+1) Z) (U nm)).setCell (T b (n*6+1+2) Z) (Y Z 0 0)).drew.cell? (T rb 1 Z)=N (U nm)/\(((o.setCell (T b (n*6+1) Z) (I J 4)).setCell (T b (n*6+1+1) Z) (U nm)).setCell (T b (n*6+1+2) Z) (Y Z 0 0)).drew.cell? (T rb 2 Z)=N (Y Z 0 0)) :=
  ⟨(cell_far _ _ _ _ ZB).trans ((cell_far _ _ _ _ ZB).trans ((cell_far _ _ _ _ ZB).trans G)),(cell_far _ _ _ _ f).trans ((cell_far _ _ _ _ f).trans ((cell_far _ _ _ _ f).trans r0)),(cell_far _ _ _ _ f).trans ((cell_far _ _ _ _ f).trans ((cell_far _ _ _ _ f).trans r1)),(cell_far _ _ _ _ f).trans ((cell_far _ _ _ _ f).trans ((cell_far _ _ _ _ f).trans r2))⟩
 refine aD (i:=8) rfl (by as_aux_lemma=>kernel_rfl) (fun K hK=>?_);go_simp;refine hK _ _ DE ?_;clear hK K HS q1 q2 q3 Hc GM GO G r0 r1 r2 rl
 (try simp only[Act.put])
 refine wpAnyH_done (by as_aux_lemma=>kernel_rfl) ?_ _;have D7:Hid (Below (((o.setCell (T b (n*6+1) Z) (I J 4)).setCell (T b (n*6+1+1) Z) (U nm)).setCell (T b (n*6+1+2) Z) (Y Z 0 0)).heap.size (((o.setCell (T b (n*6+1) Z) (I J 4)).setCell (T b (n*6+1+1) Z) (U nm)).setCell (T b (n*6+1+2) Z) (Y Z 0 0)) (((o.setCell (T b (n*6+1) Z) (I J 4)).setCell (T b (n*6+1+1) Z) (U nm)).setCell (T b (n*6+1+2) Z) (Y Z 0 0)).drew):=br.drew;have W:=ae (E.1.below D7 ly);have K7:=ae (K6.to (E.2.1.to (KS.of_below (X:=XN) D7 ly E.1.lt)));have ro:=E.2.2.1;have sm:=E.2.2.2;have Q0:Hid ((((o.setCell (T b (n*6+1) Z) (I J 4)).setCell (T b (n*6+1+1) Z) (U nm)).setCell (T b (n*6+1+2) Z) (Y Z 0 0)).drew.heap[w.heap.size]?=N (Q #[I J 0,U ⟨#[]⟩,Y Z 0 0] 37 (0,0))):=by have h0:=(E.2.1.blk _ _ _ _ bt (by decide) (by decide) (by decide) fun h=>h).trans bt;exact h0
 have O:Hid ((((o.setCell (T b (n*6+1) Z) (I J 4)).setCell (T b (n*6+1+1) Z) (U nm)).setCell (T b (n*6+1+2) Z) (Y Z 0 0)).drew.heap[rb]?=N (Q #[I J 4,U nm,Y Z 0 0] 37 (0,0))):=by have h0:=(E.2.1.blk _ _ _ _ ZA (by decide) (by decide) (by decide) fun h=>h).trans ZA;exact h0
 have ph:=ae ro;have n9:=ae sm;clear E DE ro sm bt ZA K6 S6 R6 fd D7;generalize (((o.setCell (T b (n*6+1) Z) (I J 4)).setCell (T b (n*6+1+1) Z) (U nm)).setCell (T b (n*6+1+2) Z) (Y Z 0 0)).drew=W7 at W K7 Q0 O ⊢;obtain⟨r,-,-,G,-⟩:=W.box.facts;obtain⟨hg2B',hg2l',cs7,n8⟩:=ar W.rmd b rfl;have q5:W7.cell? (T b (n*6+5) Z)=N (QT QQ):=bU (by have h:=W.rmd;rw[n9.out] at h ⊢;exact h) ph 5 (by omega) rfl;have GU:W7.frozen? (T b (n*6+5) Z)=QQ:=by simp[World.frozen?,n8]
 have TD:=ae (W.upd' n9 ph (j:=5) (by omega) (u:=QT QR) (m':=⟨nm,4,nm,[],Y Z 0 0,QR⟩) rfl (fun _=>⟨rfl,.inl ⟨rfl,rfl⟩⟩));have B:Hid ((W7.setCell (T b (n*6+5) Z) (QT QR)).heap[w.heap.size]?=N (Q #[I J 0,U ⟨#[]⟩,Y Z 0 0] 37 (0,0))):=(TD.2.1.blk _ _ _ _ Q0 (by decide) (by decide) (by decide) fun h=>h).trans Q0;have A:Hid ((W7.setCell (T b (n*6+5) Z) (QT QR)).heap[rb]?=N (Q #[I J 4,U nm,Y Z 0 0] 37 (0,0))):=(TD.2.1.blk _ _ _ _ O (by decide) (by decide) (by decide) fun h=>h).trans O;have Q9:=ae TD.1;have K8:=ae (K7.to TD.2.1);clear n8;go_upto_region 15 with fail;clear G q5 GU TD W K7 Q0 O;generalize W7.setCell (T b (n*6+5) Z) (QT QR)=p at Q9 K8 B A ⊢;obtain⟨ao,co,rfl⟩:=eU Q9.ror;obtain⟨q,hq⟩:∃ q,q=made.length:=⟨_,rfl⟩
 have HQ:=ae hq;rw[<-hq] at Hb;clear hq;obtain⟨r,-,-,-,b3,-⟩:=Q9.box.facts;rw[<-HQ.out] at b3;have QX:=ae ((q9 p).alloc ly (Q #[U nm] 9));have S9:=ae (Q9.below QX ly);have RO:=ae (by have h:=S9.ror;rw[<-HQ.out] at h;exact h);have Fd:w0.heap.size<=(p.alloc (Q #[U nm] 9)).heap.size:=S9.lt;have HG:Hid (∀ g:H,(p.alloc (Q #[U nm] 9)).grownBy g (Value.slice ao q co).ownBlock->g.heap[hb]?=(p.alloc (Q #[U nm] 9)).heap[hb]?/\g.heap[w.heap.size]?=(p.alloc (Q #[U nm] 9)).heap[w.heap.size]?/\g.heap[rb]?=(p.alloc (Q #[U nm] 9)).heap[rb]?):=fun g hg=>by
  have la:∀ (i:Nat) (cs:Array QS) (t:TypeId) (fz:Nat × Nat),(p.alloc (Q #[U nm] 9)).heap[i]?=N (Obj.cells cs t fz)->t≠9->g.heap[i]?=(p.alloc (Q #[U nm] 9)).heap[i]?:=fun i cs t fz hi ht=>hg.block i (ah hi) fun e=>by obtain⟨_,_,GF,hc⟩:=ar RO i e.symm;exact ht (au hi hc)
  exact⟨la _ _ _ _ S9.box (by decide),la _ _ _ _ ((QX.block _ (ah B)).trans B) (by decide),la _ _ _ _ ((QX.block _ (ah A)).trans A) (by decide)⟩
 have Bk:Hid ((p.alloc (Q #[U nm] 9)).heap[w.heap.size]?=N (Q #[I J 0,U ⟨#[]⟩,Y Z 0 0] 37 (0,0))):=(QX.block _ (ah B)).trans B;have G8:Hid ((p.alloc (Q #[U nm] 9)).heap[rb]?=N (Q #[I J 4,U nm,Y Z 0 0] 37 (0,0))):=(QX.block _ (ah A)).trans A;have hbw:¬ hb=w.heap.size:=fun e=>by have h:=Q9.box;unfold ShBox at h;rw[e] at h;exact absurd (au h B) (by decide)
 have Fm:¬ w.heap.size=hb:=fun e=>hbw e.symm;have GK:¬ hb=rb:=fun e=>by have h:=Q9.box;unfold ShBox at h;rw[e] at h;exact absurd (au h A) (by decide)
 have hbr':¬ rb=hb:=fun e=>GK e.symm
 go_wp2_with (first
  | (at_builtin;refine bv _ rfl (.tmp 100) (.tmp 102) 35 rfl w0.heap.size 9 i1 (U ⟨#[]⟩) 1 16 Tryz.underlying35 GI Hd GQ GV rfl (by decide) (Y ao q co) q (cu (made.map (·.name))) (by simp[Act.eval]) RO.out (T p.heap.size 0 Z) 1 1 [U nm] (by simp[Act.eval]) rfl (mh p _ _) (by simp[Value.oneCell']) (by unfold maxLen;omega) (by omega) Fd ?_;intro v9 w9 l c QY;have O9:=ae l;have G9:=ae c;have GJ:=ae QY;have R:=ae (HG w9 c);obtain⟨g9,c9,cu9,rfl,GL⟩:=l.2.resolve_left (fun h=>by omega);clear GL l c QY;obtain⟨hbl9,-,-,-,f3,-,-,-,-,-,ff⟩:=(ShBox.blk S9.box R.1).facts;have ff3:=ff 3;obtain⟨rl,r0,r1,r2,rf⟩:=aU (R.2.1.trans Bk);have rf0:=rf 0;have rf1:=rf 1;have rf2:=rf 2;obtain⟨pl,p0,p1,p2,pf⟩:=aU (R.2.2.trans G8);clear ff rf pf)
  | fail)
 have ur:=ae (S9.ord (x:=⟨nm,2,0,⟨#[]⟩,0,[]⟩) (w':=w9) (v:=Y (N (T g9 0 Z)) (q+1) c9) (by rw[<-HQ.out];exact G9) (by rw[<-HQ.out];exact O9) (by rw[<-HQ.out];exact GJ));refine bp (v:=QV #[I J 4,U nm,Y Z 0 0]) (by simp[results,Tryz.results91,go_sem,r0,r1,r2]) rfl ?_;have th:=(qh w9 (T hb 3 Z) (Y (N (T g9 0 Z)) (q+1) c9) w.heap.size Fm).trans (R.2.1.trans Bk);refine⟨Y (N (T b 0 Z)) (n+1) z,Y (N (T g9 0 Z)) (q+1) c9,rfl,?_,?_⟩
 ·rw[<-QZ.out]
  have x0:=ur.1;rw[NT] at x0;replace x0:=x0.setOff th ⟨by decide,by decide,by decide,by decide⟩ y 0 (I J 4);have y0:=aB th (j:=0) (I J 4);have x1:=x0.setOff y0 ⟨by decide,by decide,by decide,by decide⟩ y 1 (U nm);exact x1.setOff (aB y0 (j:=1) (U nm)) ⟨by decide,by decide,by decide,by decide⟩ y 2 (Y Z 0 0)
 ·have k0:=(K8.to (KS.of_below (X:=XN) QX ly Q9.lt)).to ur.2
  exact((k0.fresh ly y 0 _).fresh ly y 1 _).fresh ly y 2 _
end
section
variable {w0:H}{S:Spc}{a0 a1:Option Addr}{c0 c1 hb:Nat}{md or st:QS}{making:List ByteArray}{made:List Ent}{L:List SM}
theorem Dx (C:lZ w0 S a0 a1)(w:H)(nm:ByteArray)(h:SI w0 hb (Y a0 S.n0 c0) (Y a1 S.n1 c1) w making made L md or st)(GW:L.length<=100000)(Hj:made.length<=100000)(h1:fI L nm=Z)(si:Nat)(h2:atI (nm0 S.f0) S.n0 nm=N si)(h3:atI (nm1 S.f1) S.n1 nm=Z):Calls Tryz.prog 91 #[.pointer (N (T hb 0 Z)),U nm] w fun e w'=>∃ G8 Hf,e=QU (QV #[I J 0,U (S.f0 si).text,Y Z 0 0])/\SI w0 hb (Y a0 S.n0 c0) (Y a1 S.n1 c1) w' making (made++[⟨nm,1,0,(S.f0 si).text,0,[]⟩]) ((L++[dB nm]).set L.length ⟨nm,0,(S.f0 si).text,[],Y Z 0 0,QR⟩) G8 Hf st/\KS w0.heap.size XN w w':=by
 obtain⟨im,GI,Hb,GM,Hi⟩:=fw ma;obtain⟨i1,GN,Hl,Ha,He⟩:=fw iC;have A0:=ae ((q9 w).alloc ly (Q #[I J 0,U ⟨#[]⟩,Y Z 0 0] 37));have kr:Hid ((w.alloc (Q #[I J 0,U ⟨#[]⟩,Y Z 0 0] 37)).heap[w.heap.size]?=N (Q #[I J 0,U ⟨#[]⟩,Y Z 0 0] 37 (0,0))):=cM _ _;have S0:=ae (h.below A0 ly);have A:w0.heap.size<=w.heap.size:=h.lt;have e1:dv (fI L nm)=-1:=by rw[h1];rfl
 obtain⟨am,cm,rfl⟩:=eU h.rmd;obtain⟨n,hn⟩:∃ n,n=L.length:=⟨_,rfl⟩
 have O:=ae hn;have CC:=ae C;have hsm:=C.ok.small;have hn1:n<=100000:=by omega
 clear h h1 hn C;have es:dv (atI (nm0 S.f0) S.n0 nm)=(si:Int):=by rw[h2];rfl
 have et:dv (atI (nm1 S.f1) S.n1 nm)=-1:=by rw[h3];rfl
 have GO:=(bN h2).1;obtain⟨sb,so,ph,ro⟩:∃ sb so,a0=N (T sb so Z)/\RowSource w0 sb so S.n0 S.f0:=by
  rcases CC.src with h | ⟨b,off,e,hr⟩
  ·omega
  ·exact⟨b,off,e,hr⟩
 have DE:=ae ro;have GQ:=ae ph;obtain⟨tx,la⟩:∃ tx,tx=(S.f0 si).text:=⟨_,rfl⟩
 have GS:=ae la;rw[<-la];clear h2 h3 ro la ph;go_enter Tryz.func91,Tryz.ntmps91;go_wp2_with fail;generalize w.alloc (Q #[I J 0,U ⟨#[]⟩,Y Z 0 0] 37)=y at A0 kr S0 ⊢;refine(iA y nm S0 GW).mono ?_;rintro e w1 ⟨rfl,ur⟩;rw[ur,e1];clear ur e1;obtain⟨o,-,-,ZA,-⟩:=S0.box.facts;rw[<-O.out] at ZA;have A1:=ae ((q9 y).alloc ly (Q #[U nm,I J 0,U ⟨#[]⟩,Y Z 0 0,Y Z 0 0,QT QQ] 161));have SA:=ae (S0.below A1 ly);have RM:=ae (by have h:=SA.rmd;rw[<-O.out] at h;exact h);have Hg:(y.alloc (Q #[U nm,I J 0,U ⟨#[]⟩,Y Z 0 0,Y Z 0 0,QT QQ] 161)).heap.size=y.heap.size+1:=by simp
 have HG:Hid (∀ l:H,(y.alloc (Q #[U nm,I J 0,U ⟨#[]⟩,Y Z 0 0,Y Z 0 0,QT QQ] 161)).grownBy l (Value.slice am n cm).ownBlock->l.heap[hb]?=(y.alloc (Q #[U nm,I J 0,U ⟨#[]⟩,Y Z 0 0,Y Z 0 0,QT QQ] 161)).heap[hb]?):=fun l hg=>hg.block hb (by omega) fun e=>by obtain⟨_,_,cs,hc⟩:=ar RM hb e.symm;exact absurd (au SA.box hc) (by decide)
 have GH:w0.heap.size<=(y.alloc (Q #[U nm,I J 0,U ⟨#[]⟩,Y Z 0 0,Y Z 0 0,QT QQ] 161)).heap.size:=SA.lt;have hz1':y.heap.size<(y.alloc (Q #[U nm,I J 0,U ⟨#[]⟩,Y Z 0 0,Y Z 0 0,QT QQ] 161)).heap.size:=by omega
 clear Hg
 go_upto_region 7 with (first
  | (at_builtin;refine bv _ rfl (.tmp 46) (.tmp 49) 87 rfl w0.heap.size 161 im (QV #[U ⟨#[]⟩,I J 0,U ⟨#[]⟩,Y Z 0 0,Y Z 0 0,QT QQ]) 6 96 Tryz.underlying87 GI Hb GM Hi rfl (by decide) (Y am n cm) n (L.flatMap smV) (by simp[Act.eval]) RM.out (T y.heap.size 0 Z) 1 1 [U nm,I J 0,U ⟨#[]⟩,Y Z 0 0,Y Z 0 0,QT QQ] (by simp[Act.eval]) rfl (mg y _ _ _ _ _ _ _) (by simp[Value.oneCell']) (by unfold maxLen;omega) (by omega) GH ?_;intro v2 l p f W;have O2:=ae p;have G2:=ae f;have GC:=ae (HG l f);obtain⟨c,B,cu2,rfl,GK⟩:=p.2.resolve_left (fun h=>by omega);clear GK p f W;obtain⟨GE,-,-,f2,-,-,-,-,-,-,ff⟩:=(ShBox.blk SA.box GC).facts;have Hc:=ff 2;clear ff)
  | fail)
 have SX:=ae (SA.addL (m:=dB nm) (w':=l) (v:=Y (N (T c 0 Z)) (n+1) B) (by rw[<-O.out];exact G2) (by rw[<-O.out];exact O2) rfl);have QX:=ae SX.1;have K3:Hid (KS w0.heap.size XN w (l.setCell (T hb 2 Z) (Y (N (T c 0 Z)) (n+1) B))):=((KS.of_below (X:=XN) A0 ly A).to (KS.of_below A1 ly S0.lt)).to SX.2;have Q0:Hid ((l.setCell (T hb 2 Z) (Y (N (T c 0 Z)) (n+1) B)).heap[w.heap.size]?=N (Q #[I J 0,U ⟨#[]⟩,Y Z 0 0] 37 (0,0))):=by have h0:=(A1.block _ (ah kr)).trans kr;exact(SX.2.blk _ _ _ _ h0 (by decide) (by decide) (by decide) fun h=>h).trans h0
 have ZB:(L++[dB nm]).length=n+1:=by rw[a8,p9,<-O.out]
 have QY:Hid ((L++[dB nm])[n]?=N (dB nm)):=by rw[O.out];show _=_;rw[p8 ly,NE];rfl
 clear SX f2 Hc GE ZA o RM SA A1 HG O2 G2 GC;generalize l.setCell (T hb 2 Z) (Y (N (T c 0 Z)) (n+1) B)=W3 at QX K3 Q0 ⊢;obtain⟨o,b0,b1,-⟩:=QX.box.facts;go_wp2_with fail;refine(eu a0 S.n0 c0 a1 S.n1 c1 S.f0 nm W3 (by omega) (CC.src.below QX.bel ly)).mono ?_;rintro e w4 ⟨he,F⟩;rw[es] at he;subst he;have S4:=ae (QX.below F ly);have aq:Hid (w4.heap[w.heap.size]?=_):=(F.block _ (ah Q0)).trans Q0;have K4:=ae (K3.to (KS.of_below (X:=XN) F ly QX.lt));clear F b0 b1 o QX K3 Q0;obtain⟨o,b0,b1,-⟩:=S4.box.facts;go_wp2_with fail;refine(eS a0 S.n0 c0 a1 S.n1 c1 S.f1 nm w4 (by omega) (CC.tgt.below S4.bel ly)).mono ?_;rintro e z ⟨he,F⟩;rw[et] at he;subst he;have S5:=ae (S4.below F ly);have n9:Hid (z.heap[w.heap.size]?=N (Q #[I J 0,U ⟨#[]⟩,Y Z 0 0] 37 (0,0))):=(F.block _ (ah aq)).trans aq;have K5:=ae (K4.to (KS.of_below (X:=XN) F ly S4.lt));clear F b0 b1 o S4 K4 aq A0 S0 kr;have A5:=ae ((q9 z).alloc ly (Q #[I J 4,U nm,Y Z 0 0] 37));have ld:=ae (S5.below A5 ly);have hI0:(0:Int)<=(si:Int):=by omega
 have hI1:(si:Int)<(S.n0:Int):=by omega
 have q0:(z.alloc (Q #[I J 4,U nm,Y Z 0 0] 37)).cell? (T hb 0 Z)=N (Y (N (T sb so Z)) S.n0 c0):=by have h:=ld.box.facts.2.1;rw[GQ.out] at h;exact h
 have q1:(z.alloc (Q #[I J 4,U nm,Y Z 0 0] 37)).cell? (T sb (so+si*2+1) Z)=N (U tx):=by rw[GS.out];exact((DE.below ld.bel ly).2 si GO).2
 have o:=S5.box.facts.1;have ql:sb<z.heap.size:=lj DE.1 S5.lt;go_upto_region 13 with fail;clear q0 q1 ql o A5 ld;have A6:=ae ((q9 z).alloc ly (Q #[I J 0,U tx,Y Z 0 0] 37));have M:Hid ((z.alloc (Q #[I J 0,U tx,Y Z 0 0] 37)).heap[z.heap.size]?=N (Q #[I J 0,U tx,Y Z 0 0] 37 (0,0))):=cM _ _;generalize z.alloc (Q #[I J 0,U tx,Y Z 0 0] 37)=r at A6 M ⊢;have S6:=ae (S5.below A6 ly);have bt:Hid (r.heap[w.heap.size]?=N (Q #[I J 0,U ⟨#[]⟩,Y Z 0 0] 37 (0,0))):=(A6.block _ (ah n9)).trans n9;have K6:=ae (K5.to (KS.of_below (X:=XN) A6 ly S5.lt));obtain⟨rb,Fk⟩:∃ rb,rb=z.heap.size:=⟨_,rfl⟩
 rw[<-Fk] at M ⊢;have hrbw:w.heap.size<=rb:=by have:=K5.below.size;omega
 clear Fk A6 S5 n9 K5;obtain⟨o,-,-,ZA,-⟩:=S6.box.facts;obtain⟨rl,r0,r1,r2,-⟩:=aU M;obtain⟨hg2B,hg2l,GL,n8⟩:=ar S6.rmd c rfl;have fd:=ae n8;have R6:=ae (by have h:=S6.rmd;rw[ZB] at h;exact h);have q1:r.cell? (T c (n*6+1) Z)=N (I J 0):=bU (by rw[ZB];exact R6) QY 1 (by omega) rfl;have q2:r.cell? (T c (n*6+1+1) Z)=N (U ⟨#[]⟩):=bU (by rw[ZB];exact R6) QY 2 (by omega) rfl;have q3:r.cell? (T c (n*6+1+2) Z)=N (Y Z 0 0):=bU (by rw[ZB];exact R6) QY 3 (by omega) rfl;have qf:∀ j,r.frozen? (T c j Z)=QQ:=fun j=>by simp[World.frozen?,n8]
 have Hk:=qf (n*6+1);have GV:=qf (n*6+1+1);have GY:=qf (n*6+1+2);clear qf n8;have hIn:(n:Int)<(n:Int)+1:=by omega
 have Q9:c≠hb:=by intro e;have h:=fd.out;rw[e] at h;exact absurd (au h S6.box) (by decide)
 have g:c≠rb:=by intro e;have h:=fd.out;rw[e] at h;exact absurd (au h M) (by decide)
 refine wp_region_held_drew (S:=fun V=>V.cell? (T hb 2 Z)=N (Y (N (T c 0 Z)) (n+1) B)/\V.cell? (T rb 0 Z)=N (I J 0)/\V.cell? (T rb 1 Z)=N (U tx)/\V.cell? (T rb 2 Z)=N (Y Z 0 0)) (by as_aux_lemma=>kernel_rfl) ⟨ZA,r0,r1,r2⟩ (fun hS=>?_);have HS:=ae hS;clear hS
 iterate 8
  first | refine aV 0 (v:=?_) rfl rfl (by as_aux_lemma=>kernel_rfl) (fun _ _ _ h=>h) rfl ?_ HS ?_ | refine aV 4 (v:=?_) rfl rfl (by as_aux_lemma=>kernel_rfl) (fun _ _ _ h=>h) rfl ?_ HS ?_
  rotate_left
  ·(intro wz GJ;obtain⟨s0,s1,s2,s3⟩:=GJ;go_simp)
   (try with_reducible rfl)
  (try simp only[Act.put,nzL])
 have G:=ae (S6.told ZB QY rfl 0 tx)
 have Fn:Hid ((((r.setCell (T c (n*6+1) Z) (I J 0)).setCell (T c (n*6+1+1) Z) (U tx)).setCell (T c (n*6+1+2) Z) (Y Z 0 0)).drew.cell? (T hb 2 Z)=N (Y (N (T c 0 Z)) (n+1) B)/\(((r.setCell (T c (n*6+1) Z) (I J 0)).setCell (T c (n*6+1+1) Z) (U tx)).setCell (T c (n*6+1+2) Z) (Y Z 0 0)).drew.cell? (T rb 0 Z)=N (I J 0)/\(((r.setCell (T c (n*6+1) Z) (I J 0)).setCell (T c (n*6+1+1) Z) (U tx)).setCell (T c (n*6+1+2) Z) (Y Z 0 0)).drew.cell? (T rb 1 Z)=N (U tx)/\(((r.setCell (T c (n*6+1) Z) (I J 0)).setCell (T c (n*6+1+1) Z) (U tx)).setCell (T c (n*6+1+2) Z) (Y Z 0 0)).drew.cell? (T rb 2 Z)=N (Y Z 0 0)) :=
  ⟨(cell_far _ _ _ _ Q9).trans ((cell_far _ _ _ _ Q9).trans ((cell_far _ _ _ _ Q9).trans ZA)),(cell_far _ _ _ _ g).trans ((cell_far _ _ _ _ g).trans ((cell_far _ _ _ _ g).trans r0)),(cell_far _ _ _ _ g).trans ((cell_far _ _ _ _ g).trans ((cell_far _ _ _ _ g).trans r1)),(cell_far _ _ _ _ g).trans ((cell_far _ _ _ _ g).trans ((cell_far _ _ _ _ g).trans r2))⟩
 refine aD (i:=8) rfl (by as_aux_lemma=>kernel_rfl) (fun K hK=>?_);go_simp;refine hK _ _ Fn ?_;clear hK K HS q1 q2 q3 Hk GV GY ZA r0 r1 r2 rl
 (try simp only[Act.put])
 refine wpAnyH_done (by as_aux_lemma=>kernel_rfl) ?_ _;have D7:Hid (Below (((r.setCell (T c (n*6+1) Z) (I J 0)).setCell (T c (n*6+1+1) Z) (U tx)).setCell (T c (n*6+1+2) Z) (Y Z 0 0)).heap.size (((r.setCell (T c (n*6+1) Z) (I J 0)).setCell (T c (n*6+1+1) Z) (U tx)).setCell (T c (n*6+1+2) Z) (Y Z 0 0)) (((r.setCell (T c (n*6+1) Z) (I J 0)).setCell (T c (n*6+1+1) Z) (U tx)).setCell (T c (n*6+1+2) Z) (Y Z 0 0)).drew):=br.drew;have QW:=ae (G.1.below D7 ly);have K7:=ae (K6.to (G.2.1.to (KS.of_below (X:=XN) D7 ly G.1.lt)));have At:=G.2.2.1;have Bk:=G.2.2.2;have R:Hid ((((r.setCell (T c (n*6+1) Z) (I J 0)).setCell (T c (n*6+1+1) Z) (U tx)).setCell (T c (n*6+1+2) Z) (Y Z 0 0)).drew.heap[w.heap.size]?=N (Q #[I J 0,U ⟨#[]⟩,Y Z 0 0] 37 (0,0))):=by have h0:=(G.2.1.blk _ _ _ _ bt (by decide) (by decide) (by decide) fun h=>h).trans bt;exact h0
 have P:Hid ((((r.setCell (T c (n*6+1) Z) (I J 0)).setCell (T c (n*6+1+1) Z) (U tx)).setCell (T c (n*6+1+2) Z) (Y Z 0 0)).drew.heap[rb]?=N (Q #[I J 0,U tx,Y Z 0 0] 37 (0,0))):=by have h0:=(G.2.1.blk _ _ _ _ M (by decide) (by decide) (by decide) fun h=>h).trans M;exact h0
 have th:=ae At;have sm:=ae Bk;clear G Fn At Bk bt M K6 S6 R6 fd D7;generalize (((r.setCell (T c (n*6+1) Z) (I J 0)).setCell (T c (n*6+1+1) Z) (U tx)).setCell (T c (n*6+1+2) Z) (Y Z 0 0)).drew=W7 at QW K7 R P ⊢;obtain⟨o,-,-,ZA,-⟩:=QW.box.facts;obtain⟨hg2B',hg2l',cs7,qr⟩:=ar QW.rmd c rfl;have q5:W7.cell? (T c (n*6+5) Z)=N (QT QQ):=bU (by have h:=QW.rmd;rw[sm.out] at h ⊢;exact h) th 5 (by omega) rfl;have Hd:W7.frozen? (T c (n*6+5) Z)=QQ:=by simp[World.frozen?,qr]
 have TD:=ae (QW.upd' sm th (j:=5) (by omega) (u:=QT QR) (m':=⟨nm,0,tx,[],Y Z 0 0,QR⟩) rfl (fun _=>⟨rfl,.inl ⟨rfl,rfl⟩⟩));have E:Hid ((W7.setCell (T c (n*6+5) Z) (QT QR)).heap[w.heap.size]?=N (Q #[I J 0,U ⟨#[]⟩,Y Z 0 0] 37 (0,0))):=(TD.2.1.blk _ _ _ _ R (by decide) (by decide) (by decide) fun h=>h).trans R;have D:Hid ((W7.setCell (T c (n*6+5) Z) (QT QR)).heap[rb]?=N (Q #[I J 0,U tx,Y Z 0 0] 37 (0,0))):=(TD.2.1.blk _ _ _ _ P (by decide) (by decide) (by decide) fun h=>h).trans P;have QZ:=ae TD.1;have K8:=ae (K7.to TD.2.1);clear qr;go_upto_region 15 with fail;clear ZA q5 Hd TD QW K7 R P;generalize W7.setCell (T c (n*6+5) Z) (QT QR)=s at QZ K8 E D ⊢;obtain⟨ao,co,rfl⟩:=eU QZ.ror;obtain⟨q,hq⟩:∃ q,q=made.length:=⟨_,rfl⟩
 have HQ:=ae hq;rw[<-hq] at Hj;clear hq;obtain⟨o,-,-,-,b3,-⟩:=QZ.box.facts;rw[<-HQ.out] at b3;have A9:=ae ((q9 s).alloc ly (Q #[U nm] 9));have S9:=ae (QZ.below A9 ly);have RO:=ae (by have h:=S9.ror;rw[<-HQ.out] at h;exact h);have GD:w0.heap.size<=(s.alloc (Q #[U nm] 9)).heap.size:=S9.lt;have HG:Hid (∀ l:H,(s.alloc (Q #[U nm] 9)).grownBy l (Value.slice ao q co).ownBlock->l.heap[hb]?=(s.alloc (Q #[U nm] 9)).heap[hb]?/\l.heap[w.heap.size]?=(s.alloc (Q #[U nm] 9)).heap[w.heap.size]?/\l.heap[rb]?=(s.alloc (Q #[U nm] 9)).heap[rb]?):=fun l hg=>by
  have mv:∀ (i:Nat) (cs:Array QS) (t:TypeId) (fz:Nat × Nat),(s.alloc (Q #[U nm] 9)).heap[i]?=N (Obj.cells cs t fz)->t≠9->l.heap[i]?=(s.alloc (Q #[U nm] 9)).heap[i]?:=fun i cs t fz hi ht=>hg.block i (ah hi) fun e=>by obtain⟨_,_,GL,hc⟩:=ar RO i e.symm;exact ht (au hi hc)
  exact⟨mv _ _ _ _ S9.box (by decide),mv _ _ _ _ ((A9.block _ (ah E)).trans E) (by decide),mv _ _ _ _ ((A9.block _ (ah D)).trans D) (by decide)⟩
 have Fm:Hid ((s.alloc (Q #[U nm] 9)).heap[w.heap.size]?=N (Q #[I J 0,U ⟨#[]⟩,Y Z 0 0] 37 (0,0))):=(A9.block _ (ah E)).trans E;have Hh:Hid ((s.alloc (Q #[U nm] 9)).heap[rb]?=N (Q #[I J 0,U tx,Y Z 0 0] 37 (0,0))):=(A9.block _ (ah D)).trans D;have hbw:¬ hb=w.heap.size:=fun e=>by have h:=QZ.box;unfold ShBox at h;rw[e] at h;exact absurd (au h E) (by decide)
 have GF:¬ w.heap.size=hb:=fun e=>hbw e.symm;have GT:¬ hb=rb:=fun e=>by have h:=QZ.box;unfold ShBox at h;rw[e] at h;exact absurd (au h D) (by decide)
 have hbr':¬ rb=hb:=fun e=>GT e.symm
 go_wp2_with (first
  | (at_builtin;refine bv _ rfl (.tmp 100) (.tmp 102) 35 rfl w0.heap.size 9 i1 (U ⟨#[]⟩) 1 16 Tryz.underlying35 GN Hl Ha He rfl (by decide) (Y ao q co) q (cu (made.map (·.name))) (by simp[Act.eval]) RO.out (T s.heap.size 0 Z) 1 1 [U nm] (by simp[Act.eval]) rfl (mh s _ _) (by simp[Value.oneCell']) (by unfold maxLen;omega) (by omega) GD ?_;intro v9 w9 p f W;have O9:=ae p;have G9:=ae f;have GP:=ae W;have Q2:=ae (HG w9 f);obtain⟨g9,c9,cu9,rfl,GU⟩:=p.2.resolve_left (fun h=>by omega);clear GU p f W;obtain⟨hbl9,-,-,-,f3,-,-,-,-,-,ff⟩:=(ShBox.blk S9.box Q2.1).facts;have ff3:=ff 3;obtain⟨rl,r0,r1,r2,rf⟩:=aU (Q2.2.1.trans Fm);have rf0:=rf 0;have rf1:=rf 1;have rf2:=rf 2;obtain⟨pl,p0,p1,p2,pf⟩:=aU (Q2.2.2.trans Hh);clear ff rf pf)
  | fail)
 have Fd:=ae (S9.ord (x:=⟨nm,1,0,tx,0,[]⟩) (w':=w9) (v:=Y (N (T g9 0 Z)) (q+1) c9) (by rw[<-HQ.out];exact G9) (by rw[<-HQ.out];exact O9) (by rw[<-HQ.out];exact GP));refine bp (v:=QV #[I J 0,U tx,Y Z 0 0]) (by simp[results,Tryz.results91,go_sem,r0,r1,r2]) rfl ?_;have DQ:=(qh w9 (T hb 3 Z) (Y (N (T g9 0 Z)) (q+1) c9) w.heap.size GF).trans (Q2.2.1.trans Fm);refine⟨Y (N (T c 0 Z)) (n+1) B,Y (N (T g9 0 Z)) (q+1) c9,rfl,?_,?_⟩
 ·rw[<-O.out]
  have x0:=Fd.1;rw[NT] at x0;replace x0:=x0.setOff DQ ⟨by decide,by decide,by decide,by decide⟩ A 0 (I J 0);have y0:=aB DQ (j:=0) (I J 0);have x1:=x0.setOff y0 ⟨by decide,by decide,by decide,by decide⟩ A 1 (U tx);exact x1.setOff (aB y0 (j:=1) (U tx)) ⟨by decide,by decide,by decide,by decide⟩ A 2 (Y Z 0 0)
 ·have k0:=(K8.to (KS.of_below (X:=XN) A9 ly QZ.lt)).to Fd.2
  exact((k0.fresh ly A 0 _).fresh ly A 1 _).fresh ly A 2 _
end
section
variable {w0:H}{S:Spc}{a0 a1:Option Addr}{c0 c1 hb:Nat}{md or st:QS}{making:List ByteArray}{made:List Ent}{L:List SM}
theorem Ay (C:lZ w0 S a0 a1)(w:H)(nm:ByteArray)(h:SI w0 hb (Y a0 S.n0 c0) (Y a1 S.n1 c1) w making made L md or st)(At:L.length<=100000)(Q9:making.length=60)(h1:fI L nm=Z)(hi:atL making nm=Z)(tg:Nat)(h3:atI (nm1 S.f1) S.n1 nm=N tg):Calls Tryz.prog 91 #[.pointer (N (T hb 0 Z)),U nm] w fun e w'=>jN w0 hb (Y a0 S.n0 c0) (Y a1 S.n1 c1) making L w e w' (.inr (.inr nm)):=by
 obtain⟨im,ph,n9,DQ,ur⟩:=fw ma;obtain⟨i1,hi1,hy0,hy1,hy2⟩:=fw iC;have V:=ae ((q9 w).alloc ly (Q #[I J 0,U ⟨#[]⟩,Y Z 0 0] 37));have kr:Hid ((w.alloc (Q #[I J 0,U ⟨#[]⟩,Y Z 0 0] 37)).heap[w.heap.size]?=N (Q #[I J 0,U ⟨#[]⟩,Y Z 0 0] 37 (0,0))):=cM _ _;have r:=ae (h.below V ly);have B:w0.heap.size<=w.heap.size:=h.lt;have e1:dv (fI L nm)=-1:=by rw[h1];rfl
 obtain⟨am,cm,rfl⟩:=eU h.rmd;obtain⟨n,hn⟩:∃ n,n=L.length:=⟨_,rfl⟩
 have F:=ae hn;have CC:=ae C;have hsm:=C.ok.small;have hn1:n<=100000:=by omega
 clear h h1 hn C;obtain⟨es0,es⟩:∃ z,dv (atI (nm0 S.f0) S.n0 nm)=z:=⟨_,rfl⟩
 have et:dv (atI (nm1 S.f1) S.n1 nm)=(tg:Int):=by rw[h3];rfl
 have M:∀ (j:Nat) (y:ByteArray),making[j]?=N y->(y.toList == nm.toList)=QQ:=fun j y Q0=>by unfold atL at hi;rw[LI] at hi;exact hi y (IF Q0)
 have qr:=ae M;obtain⟨p,ZA⟩:∃ p,p=making.length:=⟨_,rfl⟩
 have D:=ae ZA;have hT0:(0:Int)<=(tg:Int):=by omega
 have hT1:=(bN h3).1;rw[<-ZA] at Q9;obtain⟨ast,cst,rfl⟩:=eU r.rst;clear h3 hi M ZA;have Q2:p=60:=by omega
 clear Q9;go_enter Tryz.func91,Tryz.ntmps91;go_wp2_with fail;generalize w.alloc (Q #[I J 0,U ⟨#[]⟩,Y Z 0 0] 37)=b at V kr r ⊢;refine(iA b nm r At).mono ?_;rintro e w1 ⟨rfl,aq⟩;rw[aq,e1];clear aq e1;obtain⟨c,-,-,b2,-⟩:=r.box.facts;rw[<-F.out] at b2;have QW:=ae ((q9 b).alloc ly (Q #[U nm,I J 0,U ⟨#[]⟩,Y Z 0 0,Y Z 0 0,QT QQ] 161));have ZB:=ae (r.below QW ly);have RM:=ae (by have h:=ZB.rmd;rw[<-F.out] at h;exact h);have th:(b.alloc (Q #[U nm,I J 0,U ⟨#[]⟩,Y Z 0 0,Y Z 0 0,QT QQ] 161)).heap.size=b.heap.size+1:=by simp
 have HG:Hid (∀ l:H,(b.alloc (Q #[U nm,I J 0,U ⟨#[]⟩,Y Z 0 0,Y Z 0 0,QT QQ] 161)).grownBy l (Value.slice am n cm).ownBlock->l.heap[hb]?=(b.alloc (Q #[U nm,I J 0,U ⟨#[]⟩,Y Z 0 0,Y Z 0 0,QT QQ] 161)).heap[hb]?):=fun l hg=>hg.block hb (by omega) fun e=>by obtain⟨_,_,QZ,f⟩:=ar RM hb e.symm;exact absurd (au ZB.box f) (by decide)
 have n8:w0.heap.size<=(b.alloc (Q #[U nm,I J 0,U ⟨#[]⟩,Y Z 0 0,Y Z 0 0,QT QQ] 161)).heap.size:=ZB.lt;have hz1':b.heap.size<(b.alloc (Q #[U nm,I J 0,U ⟨#[]⟩,Y Z 0 0,Y Z 0 0,QT QQ] 161)).heap.size:=by omega
 clear th
 go_upto_region 7 with (first
  | (at_builtin;refine bv _ rfl (.tmp 46) (.tmp 49) 87 rfl w0.heap.size 161 im (QV #[U ⟨#[]⟩,I J 0,U ⟨#[]⟩,Y Z 0 0,Y Z 0 0,QT QQ]) 6 96 Tryz.underlying87 ph n9 DQ ur rfl (by decide) (Y am n cm) n (L.flatMap smV) (by simp[Act.eval]) RM.out (T b.heap.size 0 Z) 1 1 [U nm,I J 0,U ⟨#[]⟩,Y Z 0 0,Y Z 0 0,QT QQ] (by simp[Act.eval]) rfl (mg b _ _ _ _ _ _ _) (by simp[Value.oneCell']) (by unfold maxLen;omega) (by omega) n8 ?_;intro v2 l q o Bk;have O2:=ae q;have G2:=ae o;have ld:=ae (HG l o);obtain⟨QY,u,cu2,rfl,DE⟩:=q.2.resolve_left (fun h=>by omega);clear DE q o Bk;obtain⟨mv,-,-,f2,-,-,-,-,-,-,ff⟩:=(ShBox.blk ZB.box ld).facts;have sm:=ff 2;clear ff)
  | fail)
 have W:=ae (ZB.addL (m:=dB nm) (w':=l) (v:=Y (N (T QY 0 Z)) (n+1) u) (by rw[<-F.out];exact G2) (by rw[<-F.out];exact O2) rfl);have E:=ae W.1;have K3:Hid (KS w0.heap.size XN w (l.setCell (T hb 2 Z) (Y (N (T QY 0 Z)) (n+1) u))):=((KS.of_below (X:=XN) V ly B).to (KS.of_below QW ly r.lt)).to W.2;have A:Hid ((l.setCell (T hb 2 Z) (Y (N (T QY 0 Z)) (n+1) u)).heap[w.heap.size]?=N (Q #[I J 0,U ⟨#[]⟩,Y Z 0 0] 37 (0,0))):=by have h0:=(QW.block _ (ah kr)).trans kr;exact(W.2.blk _ _ _ _ h0 (by decide) (by decide) (by decide) fun h=>h).trans h0
 have hL1:(L++[dB nm]).length=n+1:=by rw[a8,p9,<-F.out]
 have hLk:Hid ((L++[dB nm])[n]?=N (dB nm)):=by rw[F.out];show _=_;rw[p8 ly,NE];rfl
 clear W f2 sm mv b2 c RM ZB QW HG O2 G2 ld;generalize l.setCell (T hb 2 Z) (Y (N (T QY 0 Z)) (n+1) u)=W3 at E K3 A ⊢;obtain⟨c,b0,b1,-⟩:=E.box.facts;go_wp2_with fail;refine(eu a0 S.n0 c0 a1 S.n1 c1 S.f0 nm W3 (by omega) (CC.src.below E.bel ly)).mono ?_;rintro e w4 ⟨K,g⟩;rw[es] at K;subst K;have O:=ae (E.below g ly);have P:Hid (w4.heap[w.heap.size]?=_):=(g.block _ (ah A)).trans A;have K4:=ae (K3.to (KS.of_below (X:=XN) g ly E.lt));clear g b0 b1 c E K3 A;obtain⟨c,b0,b1,-⟩:=O.box.facts;go_wp2_with fail;refine(eS a0 S.n0 c0 a1 S.n1 c1 S.f1 nm w4 (by omega) (CC.tgt.below O.bel ly)).mono ?_;rintro e w5 ⟨K,g⟩;rw[et] at K;subst K;have s:=ae (O.below g ly);have la:Hid (w5.heap[w.heap.size]?=N (Q #[I J 0,U ⟨#[]⟩,Y Z 0 0] 37 (0,0))):=(g.block _ (ah P)).trans P;have K5:=ae (K4.to (KS.of_below (X:=XN) g ly O.lt));clear g b0 b1 c O K4 P V r kr;obtain⟨c,-,-,-,-,b4,b5,b6,b7,b8,G⟩:=s.box.facts;have bf4:=G 4;have bf5:=G 5;have bf6:=G 6;have bf7:=G 7;have bf8:=G 8;rw[<-D.out] at b4;clear G;go_wp2_with fail;go_loop [9] (fun i=>∃ j:Nat,j<=p/\i=I J j) (fun i=>p - (intOf i).toNat);case atStart=>exact⟨0,by omega,rfl⟩
 case round =>
 obtain⟨j,hj,rfl⟩:=hrel;by_cases hlt:j<p
 ·obtain⟨y,Q0⟩:∃ y,making[j]?=N y:=⟨_,gq (by have:=D.out;omega)⟩
  obtain⟨gs,QZ,cus,ev,-⟩:=s.rst.2.resolve_left (fun h=>by have:=D.out;omega);rw[<-D.out] at ev;cases ev
  have dj:w5.cell? (T gs j Z)=N (U y):=oY s.rst Q0;have hjm:(j:Int)<(p:Int):=by omega
  have ro:=ae (qr j y Q0);clear Q0;have hne:=ro.out;go_wp2;exact⟨⟨j+1,by omega,by go_num⟩,by simp[intOf];omega⟩
 obtain rfl:j=p:=by omega
 ·subst Q2
  have hbw:¬ hb=w.heap.size:=fun e=>by have h:=s.box;unfold ShBox at h;rw[e] at h;exact absurd (au h la) (by decide)
  have hbw':¬ w.heap.size=hb:=fun e=>hbw e.symm;obtain⟨rl,r0,r1,r2,R⟩:=aU la;have rf0:=R 0;have rf1:=R 1;have rf2:=R 2;clear R;go_wp2_with fail;refine bp (v:=QV #[I J 7,U nm,Y Z 0 0]) (by simp[results,Tryz.results91,go_sem,r0,r1,r2]) rfl ?_;have fd:=aB s.box (j:=8) (QT QR);have QX:=aB fd (j:=5) (I J 7);have bt:=aB QX (j:=6) (U nm);have Fd:=aB bt (j:=7) (Y Z 0 0);have x:w0.heap.size<=hb:=s.hbB;have k8:=(((K5.to (KS.setCell (X:=XN) _ x (.inr fun QZ t fz f=>.inr (.inr (au f s.box))) (QT QR) (j:=8))).to (KS.setCell (X:=XN) _ x (.inr fun QZ t fz f=>.inr (.inr (au f fd))) (I J 7) (j:=5))).to (KS.setCell (X:=XN) _ x (.inr fun QZ t fz f=>.inr (.inr (au f QX))) (U nm) (j:=6))).to (KS.setCell (X:=XN) _ x (.inr fun QZ t fz f=>.inr (.inr (au f bt))) (Y Z 0 0) (j:=7));refine⟨rfl,⟨_,_,_,_,_,(qh _ _ _ _ hbw).trans ((qh _ _ _ _ hbw).trans ((qh _ _ _ _ hbw).trans Fd)),⟨rfl,.inl ⟨rfl,rfl⟩⟩⟩,?_⟩;exact((k8.fresh ly B 0 _).fresh ly B 1 _).fresh ly B 2 _
end
theorem Gu {z:Int}(h0:0<=z)(h1:z<=1048576):IntKind.i64.wrap z=z:=by rw[j6];omega
theorem Gb {w w':H}{B n:Nat}{v:QS}{b:List QS}(h:w.ownsRow B 164 3 v n b)(c:KS B XN w w'):w'.ownsRow B 164 3 v n b:=dx h fun k e=>by obtain⟨_,_,cs,f⟩:=ar h k e;exact c.blk _ _ _ _ f (by decide) (by decide) (by decide) fun h=>h
theorem LExt.add (n:Nat)(L:List SM){m:SM}(g:m.done=QQ):LExt n L (L++[m]):=by
 refine⟨fun i f b=>⟨f,?_,rfl⟩,fun f b c=>?_⟩
 ·rw[IH (gM.1 b).1]
  exact b
 ·rcases hU.1 b with b | b
  ·exact .inl ⟨f,b,c,rfl⟩
  ·rw[eT.1 b,g] at c
   cases c
theorem LExt.set {n k:Nat}{L l:List SM}{m c:SM}(h:LExt n L l)(s:l[k]?=N m)(u:c.name=m.name)(t:∀ j,c.sv.ownBlock=N j->n<=j):LExt n L (l.set k c):=by
 refine⟨fun i o b=>?_,fun o b r=>?_⟩
 ·obtain⟨x,g,q⟩:=h.nam i o b
  by_cases f:k=i
  ·subst f
   rw[s] at g;cases g
   exact⟨c,KL (gM.1 s).1,u.trans q⟩
  ·exact⟨x,by rw[LZ f];exact g,q⟩
 ·rcases J7 b with p | rfl
  ·exact h.sn o p r
  ·exact .inr t
section
variable {w0:H}{S:Spc}{a0 a1:Option Addr}{c0 c1 hb:Nat}{md or st:QS}{making:List ByteArray}{made:List Ent}{L:List SM}
theorem Dy (C:lZ w0 S a0 a1)(n':Nat)(HK:nu w0 S hb (Y a0 S.n0 c0) (Y a1 S.n1 c1) n')(w:H)(nm:ByteArray)(IL:making.length+(n'+1)=60)(h:SI w0 hb (Y a0 S.n0 c0) (Y a1 S.n1 c1) w making made L md or st)(hrel:fA L making made)(hp:PG S making made)(ld:fc S making made 1)(It:MT S making)(ZA:bj made nm=Z)(hi:atL making nm=Z)(tg:Nat)(h3:atI (nm1 S.f1) S.n1 nm=N tg):Calls Tryz.prog 91 #[.pointer (N (T hb 0 Z)),U nm] w fun e w'=>jN w0 hb (Y a0 S.n0 c0) (Y a1 S.n1 c1) making L w e w' (i9 nm tg (ct S (aX S n' (making++[nm])) tg 201 made [] [])):=by
 obtain⟨h1,la⟩:=Aw hrel ZA hi;have hmade:made.length<=50000:=by unfold fc at ld;omega
 have Jj:L.length<=100000:=by have:=hrel.len;omega
 have IJ:making.length<60:=by omega
 have fd:=(bN h3).1;obtain⟨R,hR⟩:∃ R,R=ct S (aX S n' (making++[nm])) tg 201 made [] []:=⟨_,rfl⟩
 have HR:=ae hR;obtain⟨tb,Id,Iq,Ht⟩:=C.tgt.resolve_left (by omega);have Jd:=ae Iq;have GD:=ae Ht;have Hq:Hid (∀ (W:H) (Hx HU Hu:QS) (a:Option Addr) (cap:Nat),SI w0 hb (Y a0 S.n0 c0) (Y a1 S.n1 c1) W (making++[nm]) made (L++[dB nm]) Hx HU Hu->SlIns w0 a (S.f1 tg).actN (S.f1 tg).act->Calls Tryz.prog 141 #[.pointer (N (T hb 0 Z)),QV #[Y a (S.f1 tg).actN cap]] W fun e w'=>oX w0 hb (Y a0 S.n0 c0) (Y a1 S.n1 c1) (making++[nm]) (L++[dB nm]) W e w' R):=by
  intro W Hx HU Hu a cap hS GQ;rw[hR];refine Dr C n' HK made _ Hx HU Hu W a cap tg (by rw[a8,p9];omega) hS (rQ hrel la rfl rfl) (kV hp ZA) ?_ ?_ fd GQ
  ·have:=iI fd (bN h3).2 ZA hi
   unfold fc at ld ⊢;omega
  ·intro t ht
   rcases hU.1 ht with ht | ht
   ·exact It t ht
   ·rw[eT.1 ht,h3];rfl
 have HI:=ae hi;have H0:=ae ZA;have IA:Hid (∀ l x,R=.inl (l,x)->l.length<=100000/\∀ y∈l,y.name≠nm):=by intro l x he;rw[hR] at he;have g1:=iQ C.ok fd (eN C.ok n' (making++[nm])) _ _ _ _ _ _ (kV hp ZA) (jJ S made) rfl he;have g2:=rE (fun made JB Ib e=>lO S n' (making++[nm]) made JB Ib e) _ _ _ _ _ _ he;have g3:=iI fd (bN h3).2 ZA hi;refine⟨?_,(nK g1.1).2⟩;unfold gC at g2;unfold fc at ld;omega
 have Iv:=ae la;have HREL:=ae hrel;rw[<-hR];clear HK hp ld It ZA Ht Iq hR la hrel;obtain⟨im,Jp,JE,ro,Hi⟩:=fw ma;obtain⟨i1,Ig,Ir,Im,ID⟩:=fw iC;have A0:=ae ((q9 w).alloc ly (Q #[I J 0,U ⟨#[]⟩,Y Z 0 0] 37));have kr:Hid ((w.alloc (Q #[I J 0,U ⟨#[]⟩,Y Z 0 0] 37)).heap[w.heap.size]?=N (Q #[I J 0,U ⟨#[]⟩,Y Z 0 0] 37 (0,0))):=cM _ _;have S0:=ae (h.below A0 ly);have s:w0.heap.size<=w.heap.size:=h.lt;have e1:dv (fI L nm)=-1:=by rw[h1];rfl
 obtain⟨am,cm,rfl⟩:=eU h.rmd;obtain⟨n,hn⟩:∃ n,n=L.length:=⟨_,rfl⟩
 have HN:=ae hn;have CC:=ae C;have hsm:=C.ok.small;have hn1:n<=100000:=by omega
 clear h h1 hn C;obtain⟨es0,es⟩:∃ z,dv (atI (nm0 S.f0) S.n0 nm)=z:=⟨_,rfl⟩
 clear fd;have et:dv (atI (nm1 S.f1) S.n1 nm)=(tg:Int):=by rw[h3];rfl
 have Hy:∀ (j:Nat) (y:ByteArray),making[j]?=N y->(y.toList == nm.toList)=QQ:=fun j y hy=>by unfold atL at hi;rw[LI] at hi;exact hi y (IF hy)
 have Jv:=ae Hy;obtain⟨ms,He⟩:∃ ms,ms=making.length:=⟨_,rfl⟩
 have P:=ae He;have hT0:(0:Int)<=(tg:Int):=by omega
 have fd:=(bN h3).1;rw[<-He] at IJ;obtain⟨Iy,Iu,rfl⟩:=eU S0.rst;clear h3 hi Hy He;clear IL;go_enter Tryz.func91,Tryz.ntmps91;go_wp2_with fail;generalize w.alloc (Q #[I J 0,U ⟨#[]⟩,Y Z 0 0] 37)=W0 at A0 kr S0 ⊢;refine(iA W0 nm S0 Jj).mono ?_;rintro e w1 ⟨rfl,Iw⟩;rw[Iw,e1];clear Iw e1;obtain⟨D,-,-,b2,-⟩:=S0.box.facts;rw[<-HN.out] at b2;have A1:=ae ((q9 W0).alloc ly (Q #[U nm,I J 0,U ⟨#[]⟩,Y Z 0 0,Y Z 0 0,QT QQ] 161));have SA:=ae (S0.below A1 ly);have RM:=ae (by have h:=SA.rmd;rw[<-HN.out] at h;exact h);have Jo:(W0.alloc (Q #[U nm,I J 0,U ⟨#[]⟩,Y Z 0 0,Y Z 0 0,QT QQ] 161)).heap.size=W0.heap.size+1:=by simp
 have HG:Hid (∀ F:H,(W0.alloc (Q #[U nm,I J 0,U ⟨#[]⟩,Y Z 0 0,Y Z 0 0,QT QQ] 161)).grownBy F (Value.slice am n cm).ownBlock->F.heap[hb]?=(W0.alloc (Q #[U nm,I J 0,U ⟨#[]⟩,Y Z 0 0,Y Z 0 0,QT QQ] 161)).heap[hb]?):=fun F hg=>hg.block hb (by omega) fun e=>by obtain⟨_,_,cs,hc⟩:=ar RM hb e.symm;exact absurd (au SA.box hc) (by decide)
 have IX:w0.heap.size<=(W0.alloc (Q #[U nm,I J 0,U ⟨#[]⟩,Y Z 0 0,Y Z 0 0,QT QQ] 161)).heap.size:=SA.lt;have hz1':W0.heap.size<(W0.alloc (Q #[U nm,I J 0,U ⟨#[]⟩,Y Z 0 0,Y Z 0 0,QT QQ] 161)).heap.size:=by omega
 clear Jo
 go_upto_region 7 with (first
  | (at_builtin;refine bv _ rfl (.tmp 46) (.tmp 49) 87 rfl w0.heap.size 161 im (QV #[U ⟨#[]⟩,I J 0,U ⟨#[]⟩,Y Z 0 0,Y Z 0 0,QT QQ]) 6 96 Tryz.underlying87 Jp JE ro Hi rfl (by decide) (Y am n cm) n (L.flatMap smV) (by simp[Act.eval]) RM.out (T W0.heap.size 0 Z) 1 1 [U nm,I J 0,U ⟨#[]⟩,Y Z 0 0,Y Z 0 0,QT QQ] (by simp[Act.eval]) rfl (mg W0 _ _ _ _ _ _ _) (by simp[Value.oneCell']) (by unfold maxLen;omega) (by omega) IX ?_;intro v2 F B r sm;have O2:=ae B;have G2:=ae r;have II:=ae (HG F r);obtain⟨g2,GI,cu2,rfl,I7⟩:=B.2.resolve_left (fun h=>by omega);clear I7 B r sm;obtain⟨IP,-,-,f2,-,-,-,-,-,-,ff⟩:=(ShBox.blk SA.box II).facts;have JF:=ff 2;clear ff)
  | fail)
 have SX:=ae (SA.addL (m:=dB nm) (w':=F) (v:=Y (N (T g2 0 Z)) (n+1) GI) (by rw[<-HN.out];exact G2) (by rw[<-HN.out];exact O2) rfl);have S3:=ae SX.1;have K3:Hid (KS w0.heap.size XN w (F.setCell (T hb 2 Z) (Y (N (T g2 0 Z)) (n+1) GI))):=((KS.of_below (X:=XN) A0 ly s).to (KS.of_below A1 ly S0.lt)).to SX.2;have GO:Hid ((F.setCell (T hb 2 Z) (Y (N (T g2 0 Z)) (n+1) GI)).heap[w.heap.size]?=N (Q #[I J 0,U ⟨#[]⟩,Y Z 0 0] 37 (0,0))):=by have ZA:=(A1.block _ (ah kr)).trans kr;exact(SX.2.blk _ _ _ _ ZA (by decide) (by decide) (by decide) fun h=>h).trans ZA
 have ph:(L++[dB nm]).length=n+1:=by rw[a8,p9,<-HN.out]
 have bt:Hid ((L++[dB nm])[n]?=N (dB nm)):=by rw[HN.out];show _=_;rw[p8 ly,NE];rfl
 clear SX f2 JF IP b2 D RM SA A1 HG O2 G2 II;generalize F.setCell (T hb 2 Z) (Y (N (T g2 0 Z)) (n+1) GI)=W3 at S3 K3 GO ⊢;obtain⟨D,b0,b1,-⟩:=S3.box.facts;go_wp2_with fail;refine(eu a0 S.n0 c0 a1 S.n1 c1 S.f0 nm W3 (by omega) (CC.src.below S3.bel ly)).mono ?_;rintro e w4 ⟨he,hB⟩;rw[es] at he;subst he;have S4:=ae (S3.below hB ly);have GY:Hid (w4.heap[w.heap.size]?=_):=(hB.block _ (ah GO)).trans GO;have K4:=ae (K3.to (KS.of_below (X:=XN) hB ly S3.lt));clear hB b0 b1 D S3 K3 GO;obtain⟨D,b0,b1,-⟩:=S4.box.facts;go_wp2_with fail;refine(eS a0 S.n0 c0 a1 S.n1 c1 S.f1 nm w4 (by omega) (CC.tgt.below S4.bel ly)).mono ?_;rintro e w5 ⟨he,hB⟩;rw[et] at he;subst he;have S5:=ae (S4.below hB ly);have Hm:Hid (w5.heap[w.heap.size]?=N (Q #[I J 0,U ⟨#[]⟩,Y Z 0 0] 37 (0,0))):=(hB.block _ (ah GY)).trans GY;have K5:=ae (K4.to (KS.of_below (X:=XN) hB ly S4.lt));clear hB b0 b1 D S4 K4 GY A0 S0 kr;obtain⟨D,-,-,-,-,b4,b5,b6,b7,b8,bf⟩:=S5.box.facts;have Hh:=bf 4;have Jy:=bf 5;have Jr:=bf 6;have Je:=bf 7;have Jb:=bf 8;rw[<-P.out] at b4;clear bf;go_wp2_with fail;go_loop [9] (fun i=>∃ j:Nat,j<=ms/\i=I J j) (fun i=>ms - (intOf i).toNat);case atStart=>exact⟨0,by omega,rfl⟩
 case round =>
 obtain⟨j,hj,rfl⟩:=hrel;by_cases hlt:j<ms
 ·obtain⟨y,hy⟩:∃ y,making[j]?=N y:=⟨_,gq (by have:=P.out;omega)⟩
  obtain⟨gs,cs,cus,ev,-⟩:=S5.rst.2.resolve_left (fun h=>by have:=P.out;omega);rw[<-P.out] at ev;cases ev
  have dj:w5.cell? (T gs j Z)=N (U y):=oY S5.rst hy;have hjm:(j:Int)<(ms:Int):=by omega
  have Iv:=ae (Jv j y hy);clear hy;have la:=Iv.out;go_wp2;exact⟨⟨j+1,by omega,by go_num⟩,by simp[intOf];omega⟩
 obtain rfl:j=ms:=by omega
 ·have hI60:¬ (60:Int)<=(j:Int):=by omega
  clear b5 b6 b7 b8 Jy Jr Je Jb;have A6:=ae ((q9 w5).alloc ly (Q #[U nm] 9));have Q0:=ae (S5.below A6 ly);have RS:=ae (by have h:=Q0.rst;rw[<-P.out] at h;exact h);have H6:w0.heap.size<=(w5.alloc (Q #[U nm] 9)).heap.size:=Q0.lt;obtain⟨q0,aa,ca,q1,-⟩:=(GD.below Q0.bel ly).2 tg fd;obtain⟨-,aa',ca',Ip,GQ⟩:=GD.2 tg fd;have GE:=GD.1;have e1:=(Q0.bel.cell (p:=(T tb (Id+tg*2+1) Z)) GE).trans Ip;rw[q1] at e1;simp only[JL,I5,PR] at e1;obtain⟨rfl,rfl⟩:=e1;have Jn:=ae GQ;have Q1:=ae q1;clear q0 q1 Ip GQ;have Hb:Hid ((w5.alloc (Q #[U nm] 9)).heap[w.heap.size]?=N (Q #[I J 0,U ⟨#[]⟩,Y Z 0 0] 37 (0,0))):=(A6.block _ (ah Hm)).trans Hm;have HG:Hid (∀ F:H,(w5.alloc (Q #[U nm] 9)).grownBy F (Value.slice Iy j Iu).ownBlock->F.heap[hb]?=(w5.alloc (Q #[U nm] 9)).heap[hb]?/\F.heap[tb]?=(w5.alloc (Q #[U nm] 9)).heap[tb]?):=fun F hg=>by
   refine⟨hg.block hb (ah Q0.box) fun e=>?_,hg.block tb (lj GE H6) fun e=>?_⟩
   ·obtain⟨_,_,GH,hc⟩:=ar RS hb e.symm
    exact absurd (au Q0.box hc) (by decide)
   ·have:=(ar RS tb e.symm).1
    omega
  have Jc:w0.heap.size<=hb:=S5.hbB;have htbh:¬ tb=hb:=by omega
  have htbh':¬ hb=tb:=by omega
  have htI:(tg:Int)<(S.n1:Int):=by omega
  go_wp2_with (first
   | (at_builtin;refine bv _ rfl (.tmp 166) (.tmp 168) 35 rfl w0.heap.size 9 i1 (U ⟨#[]⟩) 1 16 Tryz.underlying35 Ig Ir Im ID rfl (by decide) (Y Iy j Iu) j (cu making) (by simp[Act.eval]) RS.out (T w5.heap.size 0 Z) 1 1 [U nm] (by simp[Act.eval]) rfl (mh w5 _ _) (by simp[Value.oneCell']) (by unfold maxLen;omega) (by omega) H6 ?_;intro v7 w7 B r sm;have O7:=ae B;have G7:=ae r;have Ie:=ae sm;have GV:=ae (HG w7 r);obtain⟨g7,c7,cu7,rfl,Ja⟩:=B.2.resolve_left (fun h=>by omega);clear Ja B r sm;obtain⟨Hv,-,f1,-,-,f4,-,-,-,-,ff⟩:=(ShBox.blk Q0.box GV.1).facts;have Jz:=ff 4;rw[Jd.out] at f1;have f9:=(cj (a:=(T tb (Id+tg*2+1) Z)) GV.2).trans Q1.out;have IZ:tb<w7.heap.size:=(lj (lj GE Jc) (QD Hv));clear ff)
   | fail)
  have SP:=ae (Q0.push (nm:=nm) (w':=w7) (v:=Y (N (T g7 0 Z)) (j+1) c7) (by rw[<-P.out];exact G7) (by rw[<-P.out];exact O7) (by rw[<-P.out];exact Ie));have S7:=ae SP.1;have K7:Hid (KS w0.heap.size XN w (w7.setCell (T hb 4 Z) (Y (N (T g7 0 Z)) (j+1) c7))):=(K5.to (KS.of_below (X:=XN) A6 ly S5.lt)).to SP.2;have G:Hid ((w7.setCell (T hb 4 Z) (Y (N (T g7 0 Z)) (j+1) c7)).heap[w.heap.size]?=N (Q #[I J 0,U ⟨#[]⟩,Y Z 0 0] 37 (0,0))):=(SP.2.blk _ _ _ _ Hb (by decide) (by decide) (by decide) fun h=>h).trans Hb;clear SP f1 f4 f9 Jz Hv IZ O7 G7 Ie GV HG RS Q0 A6 Hb Q1 S5 K5 Hm b4 Hh D;generalize w7.setCell (T hb 4 Z) (Y (N (T g7 0 Z)) (j+1) c7)=W7 at S7 K7 G ⊢;refine(Hq W7 _ _ _ aa ca S7 Jn).mono ?_;clear Hq;rintro e O At;rcases R with ⟨l,x⟩ | c | d
  ·obtain⟨L1,md1,Jt,st1,gx,cx,rfl,Fm,mv,GJ,IM,Hd,ZB⟩:=At
   obtain⟨IW,GU⟩:=IA.out l x rfl;clear IA;obtain⟨g,Ho⟩:∃ g,g=x.1.code:=⟨_,rfl⟩
   obtain⟨f,Hw⟩:∃ f,f=x.1.text:=⟨_,rfl⟩
   obtain⟨ls,GM⟩:∃ ls,ls=x.2:=⟨_,rfl⟩
   obtain⟨ln,GT⟩:∃ ln,ln=ls.length:=⟨_,rfl⟩
   have Hf:i9 nm tg (.inl (l,x))=.inl ((l++[⟨nm,3,g,f,tg,ls⟩]),⟨nm,3,g,f,tg,ls⟩):=by rw[Ho,Hw,GM];rfl
   have IY:=ae Hf;rw[<-GM,<-GT] at GJ;rw[<-Ho,<-Hw,<-GM,<-GT];clear Hf Ho Hw GM;have IU:=ae GT;clear GT;obtain⟨m1,ro,qr⟩:=Hd.nam n (dB nm) bt;replace qr:m1.name=nm:=qr;have JA:Hid (m1.done=QQ):=by
    obtain⟨m2,Hi,e2,e3⟩:=mv.mkg nm (J4 _ (eT.2 rfl));obtain⟨i2,Hg⟩:=KU Hi;have e4:=wQ mv.nod Hg ro (e2.trans qr.symm);rw[e4,ro] at Hg;cases Hg
    exact e3
   have bt:=ae ro;obtain⟨QZ,hN⟩:∃ QZ,QZ=L1.length:=⟨_,rfl⟩
   have ph:L1.length=QZ:=hN.symm;have hnN:n<QZ:=by rw[hN];exact(gM.1 ro).1
   obtain⟨b,Fk,cum,rfl,-⟩:=Fm.rmd.2.resolve_left (fun h=>by omega);obtain⟨gp,E,cup,rfl,Is⟩:=Fm.rst.2.resolve_left (fun h=>by rw[a8,p9] at h;omega);have hcp:j+1<=E:=by have:=Is.2.2.1;rw[a8,p9,<-P.out] at this;exact this
   rw[ph,a8,p9,<-P.out] at Fm;have KW:=ae (K7.to ZB);have o:Hid (O.heap[w.heap.size]?=N (Q #[I J 0,U ⟨#[]⟩,Y Z 0 0] 37 (0,0))):=(ZB.blk _ _ _ _ G (by decide) (by decide) (by decide) fun h=>h).trans G;have Hl:w.heap.size<=W7.heap.size:=K7.below.size;have X8:=ae (((LExt.add w.heap.size L (m:=dB nm) rfl).trans Hd Hl));have Jm:Hid (w.heap.size<=gx):=j4 Hl (ar GJ gx rfl).1;have Jw:=ae (aE GJ (j4 s Hl));have IQ:=ae mv;have hw8:w.heap.size<=O.heap.size:=KW.below.size;have Hj:=ae Fm;have Hc:=ae qr;have IK:=ae GU;clear Fm mv GJ IM Hd ZB qr ro GU Is S7 K7 G hN;have A:=ae ((q9 O).alloc ly (Q #[I J g,U f,Y Z 0 0] 37));have kb:Hid ((O.alloc (Q #[I J g,U f,Y Z 0 0] 37)).heap[O.heap.size]?=N (Q #[I J g,U f,Y Z 0 0] 37 (0,0))):=cM _ _;have GL:=ae (Hj.below A ly);have K9:=ae (KS.of_below (X:=XN) A ly Hj.lt);have GS:Hid ((O.alloc (Q #[I J g,U f,Y Z 0 0] 37)).heap[w.heap.size]?=N (Q #[I J 0,U ⟨#[]⟩,Y Z 0 0] 37 (0,0))):=(A.block _ (ah o)).trans o;go_upto_region 30 with fail;generalize O.alloc (Q #[I J g,U f,Y Z 0 0] 37)=M at A kb GL K9 GS ⊢;obtain⟨rb,Il⟩:∃ rb,rb=O.heap.size:=⟨_,rfl⟩
   rw[<-Il] at kb ⊢;have hrbw:w.heap.size<=rb:=by omega
   clear Il A Hj o;obtain⟨D,-,-,-,-,b4,-,-,-,b8,bf⟩:=GL.box.facts;have Hh:=bf 4;clear bf;go_upto_region 32 with fail;have Ji:IntKind.i64.wrap (j:Int)=(j:Int):=Gu (by omega) (by omega);have Jh:(0:Int)<=(j:Int):=by omega
   have JH:(j:Int)<=(E:Int):=by omega
   refine aH (fun V=>V.cell? (T hb 4 Z)=N (Y (N (T gp 0 Z)) (j+1) E)) 14 (by as_aux_lemma=>kernel_rfl) ?_;have HS:Hid (M.drew.cell? (T hb 4 Z)=N (Y (N (T gp 0 Z)) (j+1) E)):=b4
   iterate 10
    refine aO 0 (v:=?_) rfl rfl (by as_aux_lemma=>kernel_rfl) (fun _ _ _ h=>h) rfl ?_ HS ?_;rotate_left
    ·(intro wz s0;go_simp)
     (try with_reducible rfl)
    (try simp only[Act.put,nzL])
   refine gD (i:=10) (v:=I J (j:Int)) rfl (by as_aux_lemma=>kernel_rfl) (by as_aux_lemma=>kernel_rfl) (by as_aux_lemma=>kernel_rfl) (by as_aux_lemma=>kernel_rfl) (fun _ _ _ h=>h) rfl ?_ HS ?_
   ·intro wz s0
    go_simp
   (try simp only[Act.put,nzL])
   refine gD (i:=11) (v:=Y (N (T gp 0 Z)) j E) rfl (by as_aux_lemma=>kernel_rfl) (by as_aux_lemma=>kernel_rfl) (by as_aux_lemma=>kernel_rfl) (by as_aux_lemma=>kernel_rfl) (fun _ _ _ h=>h) rfl ?_ HS ?_
   ·intro wz s0
    go_simp
   (try simp only[Act.put,nzL])
   iterate 2
    refine cG 12 rfl rfl (by as_aux_lemma=>kernel_rfl) (fun K hK=>?_);go_simp;refine hK _ _ (fun _=>HS) ?_;clear hK K
    (try simp only[Act.put,nzL])
   have PP:Hid (SI w0 hb (Y a0 S.n0 c0) (Y a1 S.n1 c1) (M.setCell (T hb 4 Z) (Y (N (T gp 0 Z)) j E)) making l L1 (Y (N (T b 0 Z)) QZ Fk) Jt (Y (N (T gp 0 Z)) j E)/\KS w0.heap.size XN M (M.setCell (T hb 4 Z) (Y (N (T gp 0 Z)) j E))):=by have h:=GL.out;rw[P.out] at h ⊢;exact h.pop
   refine af (i:=14) rfl (by as_aux_lemma=>kernel_rfl) (fun K hK=>?_);go_simp;refine hK _ _ (fun h=>absurd rfl h) ?_;clear hK K HS b4 Hh b8
   (try simp only[Act.put])
   refine aN (by as_aux_lemma=>kernel_rfl) ?_ _;have D6:Hid (Below (M.setCell (T hb 4 Z) (Y (N (T gp 0 Z)) j E)).heap.size (M.setCell (T hb 4 Z) (Y (N (T gp 0 Z)) j E)) (M.setCell (T hb 4 Z) (Y (N (T gp 0 Z)) j E)).drew):=br.drew;have Q0:=ae (PP.1.below D6 ly);have K6:=ae ((K9.to PP.2).to (KS.of_below (X:=XN) D6 ly PP.1.lt));have GP:Hid ((M.setCell (T hb 4 Z) (Y (N (T gp 0 Z)) j E)).drew.heap[w.heap.size]?=N (Q #[I J 0,U ⟨#[]⟩,Y Z 0 0] 37 (0,0))):=(PP.2.blk _ _ _ _ GS (by decide) (by decide) (by decide) fun h=>h).trans GS;have GW:Hid ((M.setCell (T hb 4 Z) (Y (N (T gp 0 Z)) j E)).drew.heap[rb]?=N (Q #[I J g,U f,Y Z 0 0] 37 (0,0))):=(PP.2.blk _ _ _ _ kb (by decide) (by decide) (by decide) fun h=>h).trans kb;clear PP D6 GL K9 GS kb Ji Jh JH D;generalize (M.setCell (T hb 4 Z) (Y (N (T gp 0 Z)) j E)).drew=QY at Q0 K6 GP GW ⊢;have kb:=ae GW.out;clear GW;go_upto_region 33 with fail;obtain⟨D,-,-,b2,-⟩:=Q0.box.facts;obtain⟨rl,r0,r1,r2,-⟩:=aU kb;obtain⟨hg2B,hg2l,GH,Hk⟩:=ar Q0.rmd b rfl;have Hr:=ae Hk;have R6:Hid (QY.ownsRow w0.heap.size 161 6 (Y (N (T b 0 Z)) QZ Fk) QZ (L1.flatMap smV)):=by have h:=Q0.rmd;rw[ph] at h;exact h
   have q1:QY.cell? (T b (n*6+1) Z)=N (I J m1.code):=bU (by rw[ph];exact R6) bt 1 (by omega) rfl;have q2:QY.cell? (T b (n*6+1+1) Z)=N (U m1.text):=bU (by rw[ph];exact R6) bt 2 (by omega) rfl;have q3:QY.cell? (T b (n*6+1+2) Z)=N (Y Z 0 0):=bU (by rw[ph];exact R6) bt 3 (by omega) rfl;have qf:∀ j,QY.frozen? (T b j Z)=QQ:=fun j=>by simp[World.frozen?,Hk]
   have JJ:=qf (n*6+1);have Jg:=qf (n*6+1+1);have JD:=qf (n*6+1+2);clear qf Hk;have hIn:(n:Int)<(QZ:Int):=by omega
   have Fn:b≠hb:=by intro e;have h:=Hr.out;rw[e] at h;exact absurd (au h Q0.box) (by decide)
   have Q9:b≠rb:=by intro e;have h:=Hr.out;rw[e] at h;exact absurd (au h kb) (by decide)
   refine wp_region_held_drew (S:=fun V=>V.cell? (T hb 2 Z)=N (Y (N (T b 0 Z)) QZ Fk)/\V.cell? (T rb 0 Z)=N (I J g)/\V.cell? (T rb 1 Z)=N (U f)/\V.cell? (T rb 2 Z)=N (Y Z 0 0)) (by as_aux_lemma=>kernel_rfl) ⟨b2,r0,r1,r2⟩ (fun hS=>?_);have HS:=ae hS;clear hS
   iterate 8
    first | refine aV 0 (v:=?_) rfl rfl (by as_aux_lemma=>kernel_rfl) (fun _ _ _ h=>h) rfl ?_ HS ?_ | refine aV 4 (v:=?_) rfl rfl (by as_aux_lemma=>kernel_rfl) (fun _ _ _ h=>h) rfl ?_ HS ?_
    rotate_left
    ·(intro wz Jq;obtain⟨s0,s1,s2,s3⟩:=Jq;go_simp)
     (try with_reducible rfl)
    (try simp only[Act.put,nzL])
   have TL:=ae (Q0.told ph bt JA g f)
   have IE:Hid ((((QY.setCell (T b (n*6+1) Z) (I J g)).setCell (T b (n*6+1+1) Z) (U f)).setCell (T b (n*6+1+2) Z) (Y Z 0 0)).drew.cell? (T hb 2 Z)=N (Y (N (T b 0 Z)) QZ Fk)/\(((QY.setCell (T b (n*6+1) Z) (I J g)).setCell (T b (n*6+1+1) Z) (U f)).setCell (T b (n*6+1+2) Z) (Y Z 0 0)).drew.cell? (T rb 0 Z)=N (I J g)/\(((QY.setCell (T b (n*6+1) Z) (I J g)).setCell (T b (n*6+1+1) Z) (U f)).setCell (T b (n*6+1+2) Z) (Y Z 0 0)).drew.cell? (T rb 1 Z)=N (U f)/\(((QY.setCell (T b (n*6+1) Z) (I J g)).setCell (T b (n*6+1+1) Z) (U f)).setCell (T b (n*6+1+2) Z) (Y Z 0 0)).drew.cell? (T rb 2 Z)=N (Y Z 0 0)) :=
    ⟨(cell_far _ _ _ _ Fn).trans ((cell_far _ _ _ _ Fn).trans ((cell_far _ _ _ _ Fn).trans b2)),(cell_far _ _ _ _ Q9).trans ((cell_far _ _ _ _ Q9).trans ((cell_far _ _ _ _ Q9).trans r0)),(cell_far _ _ _ _ Q9).trans ((cell_far _ _ _ _ Q9).trans ((cell_far _ _ _ _ Q9).trans r1)),(cell_far _ _ _ _ Q9).trans ((cell_far _ _ _ _ Q9).trans ((cell_far _ _ _ _ Q9).trans r2))⟩
   refine aD (i:=8) rfl (by as_aux_lemma=>kernel_rfl) (fun K hK=>?_);go_simp;refine hK _ _ IE ?_;clear hK K HS q1 q2 q3 JJ Jg JD b2 r0 r1 r2 rl
   (try simp only[Act.put])
   refine wpAnyH_done (by as_aux_lemma=>kernel_rfl) ?_ _;have D7:Hid (Below (((QY.setCell (T b (n*6+1) Z) (I J g)).setCell (T b (n*6+1+1) Z) (U f)).setCell (T b (n*6+1+2) Z) (Y Z 0 0)).heap.size (((QY.setCell (T b (n*6+1) Z) (I J g)).setCell (T b (n*6+1+1) Z) (U f)).setCell (T b (n*6+1+2) Z) (Y Z 0 0)) (((QY.setCell (T b (n*6+1) Z) (I J g)).setCell (T b (n*6+1+1) Z) (U f)).setCell (T b (n*6+1+2) Z) (Y Z 0 0)).drew):=br.drew;have S7:=ae (TL.1.below D7 ly);have K7:=ae (K6.to (TL.2.1.to (KS.of_below (X:=XN) D7 ly TL.1.lt)));have Ii:=TL.2.2.1;have Iz:=TL.2.2.2;have G:Hid ((((QY.setCell (T b (n*6+1) Z) (I J g)).setCell (T b (n*6+1+1) Z) (U f)).setCell (T b (n*6+1+2) Z) (Y Z 0 0)).drew.heap[w.heap.size]?=N (Q #[I J 0,U ⟨#[]⟩,Y Z 0 0] 37 (0,0))):=by have ZA:=(TL.2.1.blk _ _ _ _ GP (by decide) (by decide) (by decide) fun h=>h).trans GP;exact ZA
   have GF:Hid ((((QY.setCell (T b (n*6+1) Z) (I J g)).setCell (T b (n*6+1+1) Z) (U f)).setCell (T b (n*6+1+2) Z) (Y Z 0 0)).drew.heap[rb]?=N (Q #[I J g,U f,Y Z 0 0] 37 (0,0))):=by have ZA:=(TL.2.1.blk _ _ _ _ kb (by decide) (by decide) (by decide) fun h=>h).trans kb;exact ZA
   have Ha:=ae Ii;have G8:=ae Iz;clear TL IE Ii Iz GP kb K6 Q0 R6 Hr D7;generalize (((QY.setCell (T b (n*6+1) Z) (I J g)).setCell (T b (n*6+1+1) Z) (U f)).setCell (T b (n*6+1+2) Z) (Y Z 0 0)).drew=W7 at S7 K7 G GF ⊢;have OS:=ae Jw.out;obtain⟨D,-,-,b2,-⟩:=S7.box.facts;obtain⟨Ia,Ic,Js,DQ⟩:=ar S7.rmd b rfl;have q4:W7.cell? (T b (n*6+4) Z)=N m1.sv:=bU (by have h:=S7.rmd;rw[G8.out] at h ⊢;exact h) Ha 4 (by omega) rfl;have I8:W7.frozen? (T b (n*6+4) Z)=QQ:=by simp[World.frozen?,DQ]
   have TD:=ae (S7.upd' G8 Ha (j:=4) (by omega) (u:=Y (N (T gx 0 Z)) ln cx) (m':=⟨m1.name,g,f,ls,Y (N (T gx 0 Z)) ln cx,QQ⟩) rfl (fun h=>by cases h));have Bk:Hid ((W7.setCell (T b (n*6+4) Z) (Y (N (T gx 0 Z)) ln cx)).heap[w.heap.size]?=N (Q #[I J 0,U ⟨#[]⟩,Y Z 0 0] 37 (0,0))):=(TD.2.1.blk _ _ _ _ G (by decide) (by decide) (by decide) fun h=>h).trans G;have DE:Hid ((W7.setCell (T b (n*6+4) Z) (Y (N (T gx 0 Z)) ln cx)).heap[rb]?=N (Q #[I J g,U f,Y Z 0 0] 37 (0,0))):=(TD.2.1.blk _ _ _ _ GF (by decide) (by decide) (by decide) fun h=>h).trans GF;have th:=ae TD.1;have GN:=ae (K7.to TD.2.1);have Hn:=ae TD.2.2.1;have Hp:=ae TD.2.2.2;clear DQ;go_upto_region 35 with fail;clear b2 q4 I8 TD S7 K7 G GF Ha G8;generalize W7.setCell (T b (n*6+4) Z) (Y (N (T gx 0 Z)) ln cx)=Fd at th GN Bk DE ⊢;have Jl:=ae (Gb OS GN);obtain⟨D,-,-,b2,-⟩:=th.box.facts;obtain⟨Ia,Ic,Js,DQ⟩:=ar th.rmd b rfl;have q5:Fd.cell? (T b (n*6+5) Z)=N (QT QQ):=bU (by have h:=th.rmd;rw[Hp.out] at h ⊢;exact h) Hn 5 (by omega) rfl;have JG:Fd.frozen? (T b (n*6+5) Z)=QQ:=by simp[World.frozen?,DQ]
   have TD:=ae (th.upd' Hp Hn (j:=5) (by omega) (u:=QT QR) (m':=⟨m1.name,g,f,ls,Y (N (T gx 0 Z)) ln cx,QR⟩) rfl (fun _=>(by rw[<-IU.out];exact Jl)));have o:Hid ((Fd.setCell (T b (n*6+5) Z) (QT QR)).heap[w.heap.size]?=N (Q #[I J 0,U ⟨#[]⟩,Y Z 0 0] 37 (0,0))):=(TD.2.1.blk _ _ _ _ Bk (by decide) (by decide) (by decide) fun h=>h).trans Bk;have ur:Hid ((Fd.setCell (T b (n*6+5) Z) (QT QR)).heap[rb]?=N (Q #[I J g,U f,Y Z 0 0] 37 (0,0))):=(TD.2.1.blk _ _ _ _ DE (by decide) (by decide) (by decide) fun h=>h).trans DE;have S8:=ae TD.1;have K8:=ae (GN.to TD.2.1);clear DQ;go_upto_region 36 with fail;clear b2 q5 JG TD th GN Bk DE;generalize Fd.setCell (T b (n*6+5) Z) (QT QR)=W8 at S8 K8 o ur ⊢;obtain⟨ao,co,rfl⟩:=eU S8.ror;obtain⟨q,hq⟩:∃ q,q=l.length:=⟨_,rfl⟩
   have HQ:=ae hq;rw[<-hq] at IW;clear hq;obtain⟨D,-,-,-,b3,-⟩:=S8.box.facts;rw[<-HQ.out] at b3;have A:=ae ((q9 W8).alloc ly (Q #[U nm] 9));have S9:=ae (S8.below A ly);have RO:Hid ((W8.alloc (Q #[U nm] 9)).ownsRow w0.heap.size 9 1 (Y ao q co) q (cu (l.map (·.name)))):=by have h:=S9.ror;rw[<-HQ.out] at h;exact h
   have Iz0:w0.heap.size<=(W8.alloc (Q #[U nm] 9)).heap.size:=S9.lt;have HG:Hid (∀ F:H,(W8.alloc (Q #[U nm] 9)).grownBy F (Value.slice ao q co).ownBlock->F.heap[hb]?=(W8.alloc (Q #[U nm] 9)).heap[hb]?/\F.heap[w.heap.size]?=(W8.alloc (Q #[U nm] 9)).heap[w.heap.size]?/\F.heap[rb]?=(W8.alloc (Q #[U nm] 9)).heap[rb]?):=fun F hg=>by
    have la:∀ (i:Nat) (cs:Array QS) (t:TypeId) (fz:Nat × Nat),(W8.alloc (Q #[U nm] 9)).heap[i]?=N (Obj.cells cs t fz)->t≠9->F.heap[i]?=(W8.alloc (Q #[U nm] 9)).heap[i]?:=fun i cs t fz hi ht=>hg.block i (ah hi) fun e=>by obtain⟨_,_,GH,hc⟩:=ar RO i e.symm;exact ht (au hi hc)
    exact⟨la _ _ _ _ S9.box (by decide),la _ _ _ _ ((A.block _ (ah o)).trans o) (by decide),la _ _ _ _ ((A.block _ (ah ur)).trans ur) (by decide)⟩
   have IC:Hid ((W8.alloc (Q #[U nm] 9)).heap[w.heap.size]?=N (Q #[I J 0,U ⟨#[]⟩,Y Z 0 0] 37 (0,0))):=(A.block _ (ah o)).trans o;have JI:Hid ((W8.alloc (Q #[U nm] 9)).heap[rb]?=N (Q #[I J g,U f,Y Z 0 0] 37 (0,0))):=(A.block _ (ah ur)).trans ur;have hbw:¬ hb=w.heap.size:=fun e=>by have h:=S8.box;unfold ShBox at h;rw[e] at h;exact absurd (au h o) (by decide)
   have GC:¬ w.heap.size=hb:=fun e=>hbw e.symm;have Jf:¬ hb=rb:=fun e=>by have h:=S8.box;unfold ShBox at h;rw[e] at h;exact absurd (au h ur) (by decide)
   have hbr':¬ rb=hb:=fun e=>Jf e.symm
   go_wp2_with (first
    | (at_builtin;refine bv _ rfl (.tmp 235) (.tmp 237) 35 rfl w0.heap.size 9 i1 (U ⟨#[]⟩) 1 16 Tryz.underlying35 Ig Ir Im ID rfl (by decide) (Y ao q co) q (cu (l.map (·.name))) (by simp[Act.eval]) RO.out (T W8.heap.size 0 Z) 1 1 [U nm] (by simp[Act.eval]) rfl (mh W8 _ _) (by simp[Value.oneCell']) (by unfold maxLen;omega) (by omega) Iz0 ?_;intro v9 w9 B r sm;have O9:=ae B;have G9:=ae r;have I9:=ae sm;have GK:=ae (HG w9 r);obtain⟨g9,c9,cu9,rfl,Ju⟩:=B.2.resolve_left (fun h=>by omega);clear Ju B r sm;obtain⟨hbl9,-,-,-,f3,-,-,-,-,-,ff⟩:=(ShBox.blk S9.box GK.1).facts;have ff3:=ff 3;obtain⟨rl,r0,r1,r2,QW⟩:=aU (GK.2.1.trans IC);have Ik:=QW 0;have Ih:=QW 1;have Io:=QW 2;obtain⟨pl,p0,p1,p2,pf⟩:=aU (GK.2.2.trans JI);clear ff QW pf)
    | fail)
   have IB:=ae (S9.ord (x:=⟨nm,3,g,f,tg,ls⟩) (w':=w9) (v:=Y (N (T g9 0 Z)) (q+1) c9) (by rw[<-HQ.out];exact G9) (by rw[<-HQ.out];exact O9) (by rw[<-HQ.out];exact I9));refine bp (v:=QV #[I J g,U f,Y Z 0 0]) (by simp[results,Tryz.results91,go_sem,r0,r1,r2]) rfl ?_;have Ij:=(qh w9 (T hb 3 Z) (Y (N (T g9 0 Z)) (q+1) c9) w.heap.size GC).trans (GK.2.1.trans IC);rw[IY.out];refine⟨L1.set n ⟨m1.name,g,f,ls,Y (N (T gx 0 Z)) ln cx,QR⟩,Y (N (T b 0 Z)) QZ Fk,Y (N (T g9 0 Z)) (q+1) c9,Y (N (T gp 0 Z)) j E,rfl,?_,wR IQ bt Hc Hc rfl rfl rfl rfl rfl IK HI,X8.set bt rfl (fun k e=>by cases e;exact Jm),?_⟩
   ·have x0:=IB.1
    rw[NT,NT] at x0;replace x0:=x0.setOff Ij ⟨by decide,by decide,by decide,by decide⟩ s 0 (I J g);have y0:=aB Ij (j:=0) (I J g);have x1:=x0.setOff y0 ⟨by decide,by decide,by decide,by decide⟩ s 1 (U f);exact x1.setOff (aB y0 (j:=1) (U f)) ⟨by decide,by decide,by decide,by decide⟩ s 2 (Y Z 0 0)
   ·have k0:=((KW.to K8).to (KS.of_below (X:=XN) A ly S8.lt)).to IB.2
    exact((k0.fresh ly s 0 _).fresh ly s 1 _).fresh ly s 2 _
  ·obtain⟨a,k,sv,rfl,⟨s0,s1,JC,Jk,I6,Q2,aq⟩,ZB⟩:=At
   have A:=ae ((q9 O).alloc ly (Q #[I J 6,U ⟨#[]⟩,Y a c.length k] 37));have K8:=ae ((K7.to ZB).to (KS.of_below (X:=XN) A ly (j4 s (K7.to ZB).below.size)));have QX:=ae (ShBox.blk Q2 (A.block _ (ah Q2)));have n8:=ae (own_below aq A ly);have o:Hid ((O.alloc (Q #[I J 6,U ⟨#[]⟩,Y a c.length k] 37)).heap[w.heap.size]?=N (Q #[I J 0,U ⟨#[]⟩,Y Z 0 0] 37 (0,0))):=by have ZA:=(ZB.blk _ _ _ _ G (by decide) (by decide) (by decide) fun h=>h).trans G;exact(A.block _ (ah ZA)).trans ZA
   clear ZB Q2 aq;unfold iB jn;dsimp only;go_upto_region 30 with fail;clear A;generalize O.alloc (Q #[I J 6,U ⟨#[]⟩,Y a c.length k] 37)=M at K8 QX n8 o ⊢;obtain⟨D,-,-,-,-,-,b5,b6,b7,b8,-⟩:=QX.facts;have hbw:¬ hb=w.heap.size:=fun e=>by have h:=QX.out;unfold ShBox at h;rw[e] at h;exact absurd (au h o) (by decide)
   have GC:¬ w.heap.size=hb:=fun e=>hbw e.symm;obtain⟨rl,r0,r1,r2,QW⟩:=aU o;have Ik:=QW 0;have Ih:=QW 1;have Io:=QW 2;clear QW;simp only[jn] at b5 b6 b7;go_wp2_with fail;refine bp (v:=QV #[I J 6,U ⟨#[]⟩,Y a c.length k]) (by simp[results,Tryz.results91,go_sem,r0,r1,r2]) rfl ?_;have Hz:=(qh ((M.setCell (T w.heap.size 0 Z) (I J 6)).setCell (T w.heap.size 1 Z) (U ⟨#[]⟩)) (T w.heap.size 2 Z) (Y a c.length k) hb hbw).trans ((qh (M.setCell (T w.heap.size 0 Z) (I J 6)) (T w.heap.size 1 Z) (U ⟨#[]⟩) hb hbw).trans ((qh M (T w.heap.size 0 Z) (I J 6) hb hbw).trans QX));have n9:((Y a c.length k:QS)).ownBlock≠N w.heap.size:=fun e=>by obtain⟨_,_,GH,hc⟩:=ar n8 w.heap.size e;exact absurd (au o hc) (by decide)
   refine⟨a,k,rfl,⟨_,_,_,_,_,Hz,?_⟩,?_⟩
   ·exact aA (aA (aA n8 n9 _ _) n9 _ _) n9 _ _
   ·exact((K8.fresh ly s 0 _).fresh ly s 1 _).fresh ly s 2 _
  ·obtain⟨sv,rfl,⟨s0,s1,JC,Jk,I6,Q2,aq⟩,ZB⟩:=At
   have A:=ae ((q9 O).alloc ly (Q #[I J 7,U d,Y Z 0 0] 37));have K8:=ae ((K7.to ZB).to (KS.of_below (X:=XN) A ly (j4 s (K7.to ZB).below.size)));have QX:=ae (ShBox.blk Q2 (A.block _ (ah Q2)));have n8:=ae (own_below aq A ly);have o:Hid ((O.alloc (Q #[I J 7,U d,Y Z 0 0] 37)).heap[w.heap.size]?=N (Q #[I J 0,U ⟨#[]⟩,Y Z 0 0] 37 (0,0))):=by have ZA:=(ZB.blk _ _ _ _ G (by decide) (by decide) (by decide) fun h=>h).trans G;exact(A.block _ (ah ZA)).trans ZA
   clear ZB Q2 aq;unfold iB jo;dsimp only;go_upto_region 30 with fail;clear A;generalize O.alloc (Q #[I J 7,U d,Y Z 0 0] 37)=M at K8 QX n8 o ⊢;obtain⟨D,-,-,-,-,-,b5,b6,b7,b8,-⟩:=QX.facts;have hbw:¬ hb=w.heap.size:=fun e=>by have h:=QX.out;unfold ShBox at h;rw[e] at h;exact absurd (au h o) (by decide)
   have GC:¬ w.heap.size=hb:=fun e=>hbw e.symm;obtain⟨rl,r0,r1,r2,QW⟩:=aU o;have Ik:=QW 0;have Ih:=QW 1;have Io:=QW 2;clear QW;simp only[jo] at b5 b6 b7;go_wp2_with fail;refine bp (v:=QV #[I J 7,U d,Y Z 0 0]) (by simp[results,Tryz.results91,go_sem,r0,r1,r2]) rfl ?_;have Hz:=(qh ((M.setCell (T w.heap.size 0 Z) (I J 7)).setCell (T w.heap.size 1 Z) (U d)) (T w.heap.size 2 Z) (Y Z 0 0) hb hbw).trans ((qh (M.setCell (T w.heap.size 0 Z) (I J 7)) (T w.heap.size 1 Z) (U d) hb hbw).trans ((qh M (T w.heap.size 0 Z) (I J 7) hb hbw).trans QX));have n9:((Y Z 0 0:QS)).ownBlock≠N w.heap.size:=fun e=>by obtain⟨_,_,GH,hc⟩:=ar n8 w.heap.size e;exact absurd (au o hc) (by decide)
   refine⟨rfl,⟨_,_,_,_,_,Hz,?_⟩,?_⟩
   ·exact aA (aA (aA n8 n9 _ _) n9 _ _) n9 _ _
   ·exact((K8.fresh ly s 0 _).fresh ly s 1 _).fresh ly s 2 _
end
section
variable {w0:H}{S:Spc}{a0 a1:Option Addr}{c0 c1 hb:Nat}
theorem uy {L:List SM}{making:List ByteArray}{made:List Ent}{nm:ByteArray}(h:fA L making made)(c:∀ m∈L,m.name≠nm)(r:bj made nm=Z)(h1:atL making nm=Z){m':SM}{x:Ent}(b:m'.name=nm)(i:m'.done=QR)(l:x.name=nm)(p:m'.code=(dK x).code)(o:m'.text=(dK x).text)(g:m'.seen=x.looks)(q:m'.sv=Y Z 0 0)(n:Nat):fA ((L++[dB nm]).set L.length m') making (made++[x])/\LExt n L ((L++[dB nm]).set L.length m'):=by
 have f:(L++[dB nm])[L.length]?=N (dB nm):=by rw[p8 ly,NE];rfl
 refine⟨wR (rQ h c (m:=dB nm) rfl rfl) f rfl b l i p o g (fR r) h1,(LExt.add n L (m:=dB nm) rfl).set f b fun j e=>?_⟩;rw[q] at e;cases e
theorem Dz (C:lZ w0 S a0 a1):∀ n,nu w0 S hb (Y a0 S.n0 c0) (Y a1 S.n1 c1) n:=by
 have s:∀ n,(∀ m,n=m+1->nu w0 S hb (Y a0 S.n0 c0) (Y a1 S.n1 c1) m)->nu w0 S hb (Y a0 S.n0 c0) (Y a1 S.n1 c1) n:=by
  intro n D making made L md or st w nm A h hrel G c q hn;have hmade:made.length<=50000:=by unfold fc at c;omega
  have b:L.length<=100000:=by have:=hrel.len;omega
  rw[lN];unfold dO;cases h0:bj made nm with
  | some e =>obtain⟨k,m,f1,u,y,z,F⟩:=Fh hrel h0;refine(Dw w nm h b k m f1 u y).mono ?_;rintro r w' ⟨rfl,f,o⟩;exact⟨L,md,or,st,by rw[z,F],f,hrel,LExt.refl _ _,o⟩
  | none =>
   cases h1:atL making nm with
   | some i =>
    obtain⟨k,m,f1,u,y,z⟩:=Fi hrel h1;have E:=q nm z;cases h2:atI (nm1 S.f1) S.n1 nm with
    | none=>rw[h2] at E;cases E
    | some tg=>exact vM C w nm h b (by omega) k m f1 u y tg i h2 h1
   | none =>
    obtain⟨B,p⟩:=Aw hrel h0 h1;dsimp only;unfold fa;cases h2:atI (nm0 S.f0) S.n0 nm with
    | some i =>refine(Dx C w nm h b (by omega) B i h2 (oh C.ok h2)).mono ?_;rintro r w' ⟨j,l,rfl,f,o⟩;have g:=uy hrel p h0 h1 (m':=⟨nm,0,(S.f0 i).text,[],Y Z 0 0,QR⟩) (x:=⟨nm,1,0,(S.f0 i).text,0,[]⟩) rfl rfl rfl rfl rfl rfl rfl w.heap.size;exact⟨_,j,l,st,rfl,f,g.1,g.2,o⟩
    | none =>
     cases h3:atI (nm1 S.f1) S.n1 nm with
     | some t =>
      cases n with
      | zero=>exact Ay C w nm h b (by omega) B h1 t h3
      | succ m=>exact Dy C m (D m rfl) w nm A h hrel G c q h0 h1 t h3
     | none =>refine(Ax C w nm h b (by omega) B h2 h3).mono ?_;rintro r w' ⟨j,l,rfl,f,o⟩;have g:=uy hrel p h0 h1 (m':=⟨nm,4,nm,[],Y Z 0 0,QR⟩) (x:=⟨nm,2,0,⟨#[]⟩,0,[]⟩) rfl rfl rfl rfl rfl rfl rfl w.heap.size;exact⟨_,j,l,st,rfl,f,g.1,g.2,o⟩
 intro n;induction n with
 | zero=>exact s 0 fun m e=>by omega
 | succ n ZB=>exact s (n+1) fun m e=>by cases e;exact ZB
end
end Go.Proofs.YtamacmnikdejeaaGreatDoor.Vp
