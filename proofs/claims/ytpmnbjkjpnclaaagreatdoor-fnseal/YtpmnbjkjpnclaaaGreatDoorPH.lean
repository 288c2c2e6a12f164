import Derived.Test.YtpmnbjkjpnclaaaGreatDoorPD
import Derived.WalkSmall
set_option maxRecDepth 1000000
set_option maxHeartbeats 16000000
set_option linter.unusedSimpArgs false
open Go renaming Addr.mk->Q,Value.slice->Z,Value.string->Y,Value.int->J,Value.bool->ZD,Obj.cells->N,IntKind.i64->I,World->M,Value->ZC,TypeId->ZH,Ending.returned->ZF,World.alloc->A,Proofs.Tryz.prog->Pg
open Option renaming none->U,some->T
open Bool renaming false->ZA,true->ZG
namespace Go.Proofs.YtpmnbjkjpnclaaaGreatDoor.Vp
open Tryz RowKit
variable {m m':SM}{w:M}{n g cap b j i size B ZO:Nat}{nm:ByteArray}{L:List SM}{e:ZH}{x:Ent}{u:ZC}
theorem vL:∀(L:List SM) (k j:Nat) (m b:SM) (u:ZC),L[k]?=T m->j<6->smV b=(smV m).set j u->(L.flatMap smV).set (k*6+j) u=(L.set k b).flatMap smV
 |[],k,j,m,b,u,h,_,_=>by simp at h
 |a::L,0,j,m,b,u,h,hj,he=>by simp only[List.getElem?_cons_zero,OJ] at h;subst h;simp only[J2,List.set_cons_zero,WH,FM];rw[VY _ _ (by rw[nU];exact hj),he]
 |a::L,k+1,j,m,b,u,h,hj,he=>by simp only[U0] at h;simp only[J2,UU];rw[SD _ _ (by rw[nU];omega),nU,show(k+1)*6+j - 6=k*6+j by omega,vL L k j m b u h hj he]
theorem Am{i:List ZC}(h:w.ownsRow b e size (Z (T (Q g 0 U)) n cap) n i)(u:ZC):(w.setCell (Q g j U) u).ownsRow b e size (Z (T (Q g 0 U)) n cap) n (i.set j u):=by
 refine⟨by rw[KK];exact h.1,?_⟩;rcases h.2 with ⟨c,h0⟩|⟨g',cap',f,c,hb,l,h1,h2,h3,h4⟩
 {simp at c};{simp only[N1,OJ,TP] at c;obtain⟨⟨rfl,-⟩,-,rfl⟩:=c;refine .inr ⟨g,cap,f.setIfInBounds j u,rfl,hb,ay l u,h1,h2,by simpa using h3,?_⟩;rw[QR,VT,h4]}
section
variable {w0 w w':M}{hb:Nat}{s0 s1 md or st:ZC}{making:List ByteArray}{made:List Ent}{L:List SM}
theorem SI.upd{k:Nat}{b:SM}(h:SI w0 hb s0 s1 w making made L (Z (T (Q g 0 U)) L.length cap) or st)(E:L[k]?=T m)(C:j<6)(F:smV b=(smV m).set j u)(G:b.done=ZG->w.ownsRow w0.heap.size 201 3 b.sv b.c.length (eF b.c)):SI w0 hb s0 s1 (w.setCell (Q g (k*6+j) U) u) making made (L.set k b) (Z (T (Q g 0 U)) (L.set k b).length cap) or st/\KS w0.heap.size XN w (w.setCell (Q g (k*6+j) U) u):=by
 obtain⟨i,hgl,cs,o⟩:=aj h.W g rfl
 have c:∀{size n:Nat} {p:ZH} {q:ZC} {z:List ZC},w.ownsRow w0.heap.size p size q n z->198≠p->(w.setCell (Q g (k*6+j) U) u).ownsRow w0.heap.size p size q n z:=λs r=>aA s (λe=>by
  obtain⟨_,_,y,f⟩:=aj s g e
  exact r (ar o f)) _ _
 have B:(L.set k b).length=L.length:=KK;refine⟨⟨h.ao.setCell i u,h.hbB,?_,?_,c h.ror (by decide),c h.rst (by decide),h.apart,λx l ZR=>?_⟩,KS.setCell w i (.inr λy t fz f=>.inr (.inl (ar f o))) u⟩
 ·rw[B]
  exact h.G.ab (qh _ _ _ _ λe=>by
   have D:hb=g:=e
   exact absurd (ar h.G (D ▸ o)) (by decide))
 {rw[B,<-vL L k j m b u E C F];exact Am h.W u};{rcases OV l with l|rfl;{exact c (h.c x l ZR) (by decide)};{exact c (G ZR) (by decide)}}
theorem SI.addL{v:ZC}(h:SI w0 hb s0 s1 w making made L md or st)(F:w.grownBy w' md.ownBlock)(D:w'.ownsRow w0.heap.size 198 6 v (L.length+1) (L.flatMap smV++smV m))(ZN:m.done=ZA):SI w0 hb s0 s1 (w'.setCell (Q hb 2 U) v) making made (L++[m]) v or st/\KS w0.heap.size XN w (w'.setCell (Q hb 2 U) v):=by
 have z:=aj h.W;have G:KS w0.heap.size XN w w':=KS.of_grown F h.lt λj ZP=>by obtain⟨h1,_,g,h2⟩:=z j ZP;exact⟨h1,.inr λg t fz q=>.inr (.inl (ar q h2))⟩
 have l:∀(i:Nat) (g:Array ZC) (t:ZH) (fz:Nat × Nat),w.heap[i]?=T (Obj.cells g t fz)->t≠198->w'.heap[i]?=w.heap[i]?:=λi g t fz hi K=>F.block i (ai hi) λe=>by obtain⟨_,_,y,h2⟩:=z i e.symm;exact K (ar hi h2)
 have b:ShBox w' hb s0 s1 md or st 0 ⟨#[]⟩ (Z U 0 0) ZA:=h.G.ab (l _ _ _ _ h.G (by decide));have c:∀{size n:Nat} {s:ZH} {B:ZC} {H:List ZC},w.ownsRow w0.heap.size s size B n H->s≠198->117≠s->(w'.setCell (Q hb 2 U) v).ownsRow w0.heap.size s size B n H:=λu C E=>by
  have h3:=dv (w':=w') u λk f=>by obtain⟨_,_,g,q⟩:=aj u k f;exact l _ _ _ _ q C
  exact aA h3 (λe=>by
   obtain⟨_,_,y,r⟩:=aj h3 hb e
   exact E (ar b r)) _ _
 have ZR:(w'.setCell (Q hb 2 U) v).ownsRow w0.heap.size 198 6 v (L.length+1) (L.flatMap smV++smV m):=aA D (λe=>by
  obtain⟨_,_,y,r⟩:=aj D hb e
  exact absurd (ar b r) (by decide)) _ _
 have f:KS w0.heap.size XN w' (w'.setCell (Q hb 2 U) v):=KS.setCell w' h.hbB (.inr λg t fz q=>.inr (.inr (ar q b))) v;refine⟨⟨h.ao.trans (G.to f).aa,h.hbB,ay b v,(by rw[cM,DW,BO,List.flatMap_singleton];exact ZR),c h.ror (by decide) (by decide),c h.rst (by decide) (by decide),h.apart,λx o p=>?_⟩,G.to f⟩;rcases p8.1 o with o|o;{exact c (h.c x o p) (by decide) (by decide)};{rw[nD.1 o,ZN] at p;cases p}
theorem SI.ord{v:ZC}(h:SI w0 hb s0 s1 w making made L md or st)(y:w.grownBy w' or.ownBlock)(F:w'.ownsRow w0.heap.size 9 1 v (made.length+1) (b9 (made.map (·.e))++[Y x.e]))(G:v.ownBlock=or.ownBlock∨v.ownBlock=T w.heap.size):SI w0 hb s0 s1 (w'.setCell (Q hb 3 U) v) making (made++[x]) L md v st/\KS w0.heap.size XN w (w'.setCell (Q hb 3 U) v):=by
 have u:=aj h.ror;have D:KS w0.heap.size XN w w':=KS.of_grown y h.lt λj ZN=>by obtain⟨h1,_,g,h2⟩:=u j ZN;exact⟨h1,.inr λg t fz l=>.inl (ar l h2)⟩
 have p:∀(i:Nat) (g:Array ZC) (t:ZH) (fz:Nat × Nat),w.heap[i]?=T (Obj.cells g t fz)->t≠9->w'.heap[i]?=w.heap[i]?:=λi g t fz hi K=>y.block i (ai hi) λe=>by obtain⟨_,_,o,h2⟩:=u i e.symm;exact K (ar hi h2)
 have c:ShBox w' hb s0 s1 md or st 0 ⟨#[]⟩ (Z U 0 0) ZA:=h.G.ab (p _ _ _ _ h.G (by decide));have q:∀{size n:Nat} {r:ZH} {ZR:ZC} {H:List ZC},w.ownsRow w0.heap.size r size ZR n H->r≠9->117≠r->(w'.setCell (Q hb 3 U) v).ownsRow w0.heap.size r size ZR n H:=λs E C=>by
  have h3:=dv (w':=w') s λk b=>by obtain⟨_,_,g,l⟩:=aj s k b;exact p _ _ _ _ l E
  exact aA h3 (λe=>by
   obtain⟨_,_,o,f⟩:=aj h3 hb e
   exact C (ar c f)) _ _
 have z:(w'.setCell (Q hb 3 U) v).ownsRow w0.heap.size 9 1 v (made.length+1) (b9 (made.map (·.e))++[Y x.e]):=aA F (λe=>by
  obtain⟨_,_,o,f⟩:=aj F hb e
  exact absurd (ar c f) (by decide)) _ _
 have b:KS w0.heap.size XN w' (w'.setCell (Q hb 3 U) v):=KS.setCell w' h.hbB (.inr λg t fz l=>.inr (.inr (ar l c))) v;refine⟨⟨h.ao.trans (D.to b).aa,h.hbB,ay c v,q h.W (by decide) (by decide),(by rw[cM,DW];simpa[b9] using z),?_,λk m=>?_,λx ZP B=>q (h.c x ZP B) (by decide) (by decide)⟩,D.to b⟩
 ·have h3:w'.ownsRow w0.heap.size 9 1 st making.length (b9 making):=dv h.rst λk b=>by
   obtain⟨_,ZQ,g,l⟩:=aj h.rst k b;exact y.block k ZQ λe=>h.apart k e.symm b
  exact aA h3 (λe=>by
   obtain⟨_,_,o,f⟩:=aj h3 hb e
   exact absurd (ar c f) (by decide)) _ _
 ·intro e;rcases G with a|a;{exact h.apart k (by rw[<-a];exact m) e}
  ·rw[a] at m;cases m
   have:=(aj h.rst _ e).2.1;omega
theorem SI.push{v:ZC}(h:SI w0 hb s0 s1 w making made L md or st)(y:w.grownBy w' st.ownBlock)(F:w'.ownsRow w0.heap.size 9 1 v (making.length+1) (b9 making++[Y nm]))(G:v.ownBlock=st.ownBlock∨v.ownBlock=T w.heap.size):SI w0 hb s0 s1 (w'.setCell (Q hb 4 U) v) (making++[nm]) made L md or v/\KS w0.heap.size XN w (w'.setCell (Q hb 4 U) v):=by
 have u:=aj h.rst;have D:KS w0.heap.size XN w w':=KS.of_grown y h.lt λj ZN=>by obtain⟨h1,_,g,h2⟩:=u j ZN;exact⟨h1,.inr λg t fz l=>.inl (ar l h2)⟩
 have o:∀(i:Nat) (g:Array ZC) (t:ZH) (fz:Nat × Nat),w.heap[i]?=T (Obj.cells g t fz)->t≠9->w'.heap[i]?=w.heap[i]?:=λi g t fz hi K=>y.block i (ai hi) λe=>by obtain⟨_,_,m,h2⟩:=u i e.symm;exact K (ar hi h2)
 have c:ShBox w' hb s0 s1 md or st 0 ⟨#[]⟩ (Z U 0 0) ZA:=h.G.ab (o _ _ _ _ h.G (by decide));have p:∀{size n:Nat} {q:ZH} {ZR:ZC} {H:List ZC},w.ownsRow w0.heap.size q size ZR n H->q≠9->117≠q->(w'.setCell (Q hb 4 U) v).ownsRow w0.heap.size q size ZR n H:=λr E C=>by
  have h3:=dv (w':=w') r λk b=>by obtain⟨_,_,g,l⟩:=aj r k b;exact o _ _ _ _ l E
  exact aA h3 (λe=>by
   obtain⟨_,_,m,f⟩:=aj h3 hb e
   exact C (ar c f)) _ _
 have z:(w'.setCell (Q hb 4 U) v).ownsRow w0.heap.size 9 1 v (making.length+1) (b9 making++[Y nm]):=aA F (λe=>by
  obtain⟨_,_,m,f⟩:=aj F hb e
  exact absurd (ar c f) (by decide)) _ _
 have b:KS w0.heap.size XN w' (w'.setCell (Q hb 4 U) v):=KS.setCell w' h.hbB (.inr λg t fz l=>.inr (.inr (ar l c))) v;refine⟨⟨h.ao.trans (D.to b).aa,h.hbB,ay c v,p h.W (by decide) (by decide),?_,(by rw[cM,DW];simpa[b9] using z),λk s=>?_,λx ZP B=>p (h.c x ZP B) (by decide) (by decide)⟩,D.to b⟩
 ·have h3:w'.ownsRow w0.heap.size 9 1 or made.length (b9 (made.map (·.e))):=dv h.ror λk b=>by
   obtain⟨_,ZQ,g,l⟩:=aj h.ror k b;exact y.block k ZQ λe=>h.apart k b e.symm
  exact aA h3 (λe=>by
   obtain⟨_,_,m,f⟩:=aj h3 hb e
   exact absurd (ar c f) (by decide)) _ _
 ·intro e;rcases G with a|a;{exact h.apart k s (by rw[<-a];exact e)}
  ·rw[a] at e;cases e
   have:=(aj h.ror _ s).2.1;omega
theorem SI.pop (h:SI w0 hb s0 s1 w (making++[nm]) made L md or (Z (T (Q g 0 U)) (making.length+1) cap)):SI w0 hb s0 s1 (w.setCell (Q hb 4 U) (Z (T (Q g 0 U)) making.length cap)) making made L md or (Z (T (Q g 0 U)) making.length cap)/\KS w0.heap.size XN w (w.setCell (Q hb 4 U) (Z (T (Q g 0 U)) making.length cap)):=by
 have b:∀{size n:Nat} {i:ZH} {j:ZC} {m:List ZC},w.ownsRow w0.heap.size i size j n m->117≠i->(w.setCell (Q hb 4 U) (Z (T (Q g 0 U)) making.length cap)).ownsRow w0.heap.size i size j n m:=λc o=>aA c (λe=>by
  obtain⟨_,_,cs2,l⟩:=aj c hb e
  exact o (ar h.G l)) _ _
 have f:=h.rst;rw[cM,DW] at f;refine⟨⟨h.ao.setCell h.hbB _,h.hbB,ay h.G _,b h.W (by decide),b h.ror (by decide),b (ownsRow_pop (last:=[Y nm]) (by simp[b9]) (by simpa[b9] using f)) (by decide),h.apart,λx p q=>b (h.c x p q) (by decide)⟩,KS.setCell w h.hbB (.inr λcs t fz r=>.inr (.inr (ar r h.G))) _⟩
end
theorem yC (h:L.Pairwise λm b=>m.e≠b.e){b:SM}(hi:L[i]?=T m)(q:L[j]?=T b)(e:m.e=b.e):i=j:=by
 rw[PO] at h;obtain⟨g,f⟩:=n8.1 hi;obtain⟨c,l⟩:=n8.1 q;rcases Nat.lt_trichotomy i j with p|o|n;{exact absurd (by rw[f,l];exact e) (h i j g c p)};{exact o};{exact absurd (by rw[f,l];exact e.symm) (h j i c g n)}
theorem rL (hn:L.Pairwise λm f=>m.e≠f.e)(i:m∈L)(e:m.e=nm):∃k,fI L nm=T k/\L[k]?=T m:=by
 obtain⟨k,b⟩:=Q9 i;refine⟨k,vG b (by rw[e];simp) λj g hj c=>?_,b⟩;cases h:(g.e.toList == nm.toList) with
 |false=>rfl
 |true =>have:=yC hn c b (by rw[bytes_beq h,e]);omega
section
variable {L:List SM}{making:List ByteArray}{made:List Ent}{nm:ByteArray}
theorem Iv (h:fG L making made){e:Ent}(b:cL made nm=T e):∃k m,fI L nm=T k/\L[k]?=T m/\m.done=ZG/\m.E=(dQ e).E/\m.B=(dQ e).B:=by obtain⟨h1,h2⟩:=qy b;obtain⟨m,n,g,l,f,j,_⟩:=h.got e h1;obtain⟨k,i,c⟩:=rL h.nod n (g.trans h2);exact⟨k,m,i,c,l,f,j⟩
theorem Iw (h:fG L making made)(hi:atL making nm=T i):∃k m,fI L nm=T k/\L[k]?=T m/\m.done=ZA/\nm∈making:=by
 have c:=hi;unfold atL at c;obtain⟨f,h1,_⟩:=SF.1 c;have b:nm∈making:=by rw[<-bytes_beq h1];exact gz f
 obtain⟨m,o,j,n⟩:=h.mkg nm b;obtain⟨k,l,g⟩:=rL h.nod o j;exact⟨k,m,l,g,n,b⟩
theorem Dj (h:fG L making made)(g:cL made nm=U)(h1:atL making nm=U):fI L nm=U/\∀m∈L,m.e≠nm:=by
 have b:∀m∈L,m.e≠nm:=λm c e=>by
  rcases h.all m c with ⟨x,f,i⟩|h2;{exact ij g x f (i.trans e)};{exact jZ h1 _ h2 e}
 refine⟨yA λj m hj c=>?_,b⟩;cases h2:(m.e.toList == nm.toList) with
 |false=>rfl
 |true=>exact absurd (bytes_beq h2) (b m (LB c))
theorem sW (h:fG L making made)(i:∀m∈L,m.e≠nm)(g:m.e=nm)(l:m.done=ZA):fG (L++[m]) (making++[nm]) made:=by
 refine⟨?_,by simp[h.len];omega,λx j=>?_,λt f=>?_,λy c=>?_⟩;{rw[PF];exact⟨h.nod,U2 _ _,λa n b hb=>by rw[nD.1 hb,g];exact i a n⟩};{obtain⟨y,c,r⟩:=h.got x j;exact⟨y,QC _ c,r⟩};{rcases p8.1 f with f|f;{obtain⟨y,c,r⟩:=h.mkg t f;exact⟨y,QC _ c,r⟩};{exact⟨m,Q2 _ (nD.2 rfl),by rw[g,nD.1 f],l⟩}};{rcases p8.1 c with c|c;{exact(h.all y c).imp id λh=>QC _ h};{rw[nD.1 c,g];exact .inr (Q2 _ (nD.2 rfl))}}
theorem yD{f:List Ent}{k:Nat}{b:SM}(h:fG L (making++[nm]) f)(ZR:L[k]?=T m)(F:m.e=nm)(o:b.e=nm)(u:x.e=nm)(ZN:b.done=ZG)(ZO:b.E=(dQ x).E)(K:b.B=(dQ x).B)(ZQ:b.c=x.looks)(ZP:∀y∈f,y.e≠nm)(h1:atL making nm=U):fG (L.set k b) making (f++[x]):=by
 have E:=(n8.1 ZR).1;have D:=(n8.1 ZR).2;have l:∀y∈L,y.e≠nm->y∈L.set k b:=λy c C=>by
  obtain⟨i,hi⟩:=Q9 c;refine LB (i:=i) ?_;rw[QK λe=>?_];{exact hi}
  ·subst e;rw[ZR] at hi;cases hi
   exact C F
 have s:b∈L.set k b:=LB (PU E);refine⟨?_,by rw[KK,h.len];simp;omega,λy c=>?_,λt q=>?_,λy c=>?_⟩;{have n:=h.nod;rw[PO] at n ⊢;have p:∀(i:Nat) (hi:i<(L.set k b).length),(L.set k b)[i].e=(L[i]'(by simpa using hi)).e:=λi hi=>(by rw[List.getElem_set];split;{rename_i e;subst e;rw[D,F,o]};{rfl});intro i j hi B G;rw[p i hi,p j B];exact n i j (by simpa using hi) (by simpa using B) G};{rcases p8.1 c with c|c;{obtain⟨z,hz,g,r⟩:=h.got y c;exact⟨z,l z hz (by rw[g];exact ZP y c),g,r⟩};{rw[nD.1 c];exact⟨b,s,by rw[o,u],ZN,ZO,K,ZQ⟩}};{obtain⟨z,hz,g,r⟩:=h.mkg t (QC _ q);exact⟨z,l z hz (by rw[g];exact jZ h1 t q),g,r⟩};{rcases OV c with H|rfl;{rcases h.all y H with ⟨z,hz,e⟩|h2;{exact .inl ⟨z,QC _ hz,e⟩};{rcases p8.1 h2 with h2|h2;{exact .inr h2};{exact .inl ⟨x,Q2 _ (nD.2 rfl),by rw[u,nD.1 h2]⟩}}};{exact .inl ⟨x,Q2 _ (nD.2 rfl),by rw[u,o]⟩}}
end
theorem oJ{S:Spc}(h:SpcOk S)(hi:atI (nm0 S.f0) S.n0 nm=T i):atI (nm1 S.f1) S.n1 nm=U:=by
 have b:=h.chk;unfold ce at b;split at b;· omega
 split at b;· omega
 split at b;· omega
 split at b;· omega
 split at b;· omega
 split at b;· omega
 rename_i c;obtain⟨h1,h2⟩:=cW hi;have:=pn (Bool.eq_false_iff.2 c) h1;rw[h2] at this;exact vF this
open Ca
section
variable {w0:M}{S:Spc}{a0 a1:Option Addr}{c0 c1 hb:Nat}{md or st:ZC}{making:List ByteArray}{made:List Ent}{L:List SM}
theorem FP (w:M)(nm:ByteArray)(h:SI w0 hb (Z a0 S.n0 c0) (Z a1 S.n1 c1) w making made L md or st)(t:L.length<=100000)(k:Nat)(m:SM)(h1:fI L nm=T k)(h2:L[k]?=T m)(z:m.done=ZG):Calls Pg 130 #[.pointer (T (Q hb 0 U)),Y nm] w λe w'=>e=ZF (.agg #[J I m.E,Y m.B,Z U 0 0])/\SI w0 hb (Z a0 S.n0 c0) (Z a1 S.n1 c1) w' making made L md or st/\KS w0.heap.size XN w w':=by
 obtain⟨l,c⟩:∃W:M,A w (N #[J I 0,Y ⟨#[]⟩,Z U 0 0] 39)=W:=⟨_,rfl⟩
 obtain⟨x,kr,-⟩:=nb1 c;have o:=ae c;clear c;have f:=ae (h.aa x ly);have b:w0.heap.size<=w.heap.size:=h.lt;have hkl:=(n8.1 h2).1;obtain⟨g,cap,cur,rfl,-⟩:=h.W.2.resolve_left (λh=>by omega);have y:ej (fI L nm)=(k:Int):=by rw[h1];rfl
 have q:=ae h2;obtain⟨n,hn⟩:∃n,n=L.length:=⟨_,rfl⟩
 have ZR:=ae hn;have hkn:k<n:=by omega
 clear h h1 h2 hn;go_enter func130,ntmps130;go_wp2_with fail;rw[o.out];clear o;refine(pr l nm f t).mono ?_;rintro e w1 ⟨rfl,r⟩;rw[r];clear r;rw[y];obtain⟨hbl,-,-,D,-⟩:=f.G.K;have d1:l.cell? (Q g (k*6+1) U)=T (J I m.E):=cE f.W q 1 (by omega) rfl;have d2:l.cell? (Q g (k*6+2) U)=T (Y m.B):=cE f.W q 2 (by omega) rfl;have d3:l.cell? (Q g (k*6+3) U)=T (Z U 0 0):=cE f.W q 3 (by omega) rfl;have d5:l.cell? (Q g (k*6+5) U)=T (ZD ZG):=by have:=cE f.W q.out 5 (by omega) (u:=ZD m.done) rfl;rw[z] at this;exact this
 rw[<-ZR.out] at D;obtain⟨rl,r0,r1,E,p⟩:=bv kr;have rf0:=p 0;have rf1:=p 1;have rf2:=p 2;have hI0:(0:Int)<=(k:Int):=by omega
 have hI1:(k:Int)<(n:Int):=by omega
 clear p;go_wp2_with fail;refine bp (v:=.agg #[J I m.E,Y m.B,Z U 0 0]) (by simp[results,SS,go_sem,r0,r1,E]) rfl ⟨rfl,?_,?_⟩;{have B:=f.X kr.out ⟨by decide,by decide,by decide,by decide⟩ b 0 (J I m.E);have s:=ay kr.out (j:=0) (J I m.E);have C:=B.X s ⟨by decide,by decide,by decide,by decide⟩ b 1 (Y m.B);exact C.X (ay s (j:=1) (Y m.B)) ⟨by decide,by decide,by decide,by decide⟩ b 2 (Z U 0 0)}
 ·refine((((KS.u (X:=XN) x ly b).trans (KS.setCell (X:=λi=>i=w.heap.size) _ b (Or.inl rfl) _) ?_).trans (KS.setCell (X:=λi=>i=w.heap.size) _ b (Or.inl rfl) _) ?_).trans (KS.setCell (X:=λi=>i=w.heap.size) _ b (Or.inl rfl) _) ?_);all_goals
   intro i hi h;have e2:i=w.heap.size:=h;omega
theorem vM{ZQ:List ByteArray}(h:w.ownsRow b 9 1 (Z (T (Q g 0 U)) n cap) n (b9 ZQ)){t:ByteArray}(c:ZQ[i]?=T t):w.cell? (Q g i U)=T (Y t):=by have h1:=h.cells (g:=g) rfl i (Y t) (by rw[b9,NZ,c];rfl);rw[addr_add,FM] at h1;exact h1
theorem xx (C:pt w0 S a0 a1)(w:M)(nm:ByteArray)(h:SI w0 hb (Z a0 S.n0 c0) (Z a1 S.n1 c1) w making made L md or st)(Ky:L.length<=100000)(DQ:making.length<=60)(k:Nat)(m:SM)(h1:fI L nm=T k)(h2:L[k]?=T m)(hd:m.done=ZA)(tg s:Nat)(ht:atI (nm1 S.f1) S.n1 nm=T tg)(hi:atL making nm=T s):Calls Pg 130 #[.pointer (T (Q hb 0 U)),Y nm] w λe w'=>mC w0 hb (Z a0 S.n0 c0) (Z a1 S.n1 c1) making L w e w' (.inr (.inl (making.drop s))):=by
 obtain⟨i1,Kw,Hx,KD,Kz⟩:=lE pu;obtain⟨W0,ZP⟩:∃W:M,A w (N #[J I 0,Y ⟨#[]⟩,Z U 0 0] 39)=W:=⟨_,rfl⟩
 obtain⟨A0,kr,-⟩:=nb1 ZP;have fd:=ae ZP;clear ZP;have S0:=ae (h.aa A0 ly);have l:w0.heap.size<=w.heap.size:=h.lt;have hkl:=(n8.1 h2).1;obtain⟨g,cap,cur,rfl,-⟩:=h.W.2.resolve_left (λh=>by omega);have e1:ej (fI L nm)=(k:Int):=by rw[h1];rfl
 have O:ej (atI (nm1 S.f1) S.n1 nm)=(tg:Int):=by rw[ht];rfl
 have KN:s<making.length/\(∃x,making[s]?=T x/\(x.toList == nm.toList)=ZG)/\∀(j:Nat) (y:ByteArray),j<s->making[j]?=T y->(y.toList == nm.toList)=ZA:=by unfold atL at hi;obtain⟨q1,q2,q3⟩:=SF.1 hi;refine⟨q1,⟨_,gq q1,q2⟩,λj y hj hy=>?_⟩;have:=q3 j hj;rw[Bool.not_eq_true] at this;rw[(n8.1 hy).2] at this;exact this
 obtain⟨Fk,⟨xi,mv,th⟩,ZI⟩:=KN;obtain⟨ZL,f,cus,rfl,n9⟩:=h.rst.2.resolve_left (λh=>by omega);have Kt:making.length<=f:=n9.2.2.1;have H2:=ae h2;have KE:=ae mv;have Kv:=ae ZI;have JT:=ae th;obtain⟨n,hn⟩:∃n,n=L.length:=⟨_,rfl⟩
 have HN:=ae hn;have hkn:k<n:=by omega
 obtain⟨c,aq⟩:∃c,c=making.length:=⟨_,rfl⟩
 have B:=ae aq;have CC:=ae C;have hsm:=C.ok.av;rw[<-aq] at Fk DQ Kt;clear h h1 h2 hn C ht hi n9 aq mv th ZI;go_enter func130,ntmps130;go_wp2_with fail;rw[fd.out];clear fd;refine(pr W0 nm S0 Ky).mono ?_;rintro e w1 ⟨rfl,ph⟩;rw[ph];clear ph;rw[e1];obtain⟨P,b0,b1,b2,-⟩:=S0.G.K;have d5:W0.cell? (Q g (k*6+5) U)=T (ZD ZA):=by have:=cE S0.W H2.out 5 (by omega) (u:=ZD m.done) rfl;rw[hd] at this;exact this
 rw[<-HN.out] at b2;have hI0:(0:Int)<=(k:Int):=by omega
 have hI1:(k:Int)<(n:Int):=by omega
 go_wp2_with fail;refine(iY a0 S.n0 c0 a1 S.n1 c1 S.f0 nm W0 (by omega) (CC.src.aa S0.ao ly)).mono ?_;rintro e w1 ⟨rfl,z⟩;have S1:=ae (S0.aa z ly);have DE:Hid (w1.heap[w.heap.size]?=_):=(z.block _ (ai kr)).trans kr;have K1:=ae (A0.trans (z.mono A0.size));clear z b0 b1 b2 P d5;obtain⟨P,b0,b1,-⟩:=S1.G.K;go_wp2_with fail;refine(iZ a0 S.n0 c0 a1 S.n1 c1 S.f1 nm w1 (by omega) (CC.R.aa S1.ao ly)).mono ?_;rintro e H ⟨he,z⟩;rw[O] at he;subst he;have r:=ae (S1.aa z ly);have qr:Hid (H.heap[w.heap.size]?=_):=(z.block _ (ai DE)).trans DE;have K2:=ae (K1.trans (z.mono K1.size));clear z b0 b1 P;obtain⟨P,-,-,-,-,b4,b5,b6,b7,b8,bf⟩:=r.G.K;have KO:=bf 5;have Id:=bf 6;have Kx:=bf 7;have KP:=bf 8;rw[<-B.out] at b4;clear bf;have hT0:(0:Int)<=(tg:Int):=by omega
 go_wp2_with fail;go_loop [9] (λi=>∃j:Nat,j<=s/\i=J I j) (λi=>s - (intOf i).toNat);case atStart=>exact⟨0,by omega,rfl⟩
 case round =>
  obtain⟨j,hj,rfl⟩:=hrel;obtain⟨y,hy⟩:∃y,making[j]?=T y:=⟨_,gq (by have:=B.out;omega)⟩
  have dj:H.cell? (Q ZL j U)=T (Y y):=vM r.rst hy;have hjm:(j:Int)<(c:Int):=by omega
  have HY:=ae hy;clear hy;by_cases KM:j<s;{have KH:=Kv.out j y KM HY.out;have HNE:=ae KH;go_wp2;exact⟨⟨j+1,by omega,by go_num⟩,by simp[intOf];omega⟩}
  ·obtain rfl:j=s:=by omega
   have hye:(y.toList == nm.toList)=ZG:=by
    have:=HY.out;rw[KE.out] at this;cases this
    exact JT
   go_upto_region 22 with fail;clear dj b4 b5 b6 b7 b8 KO Id Kx KP;have At:=ae (ay r.G (j:=8) (ZD ZG))
   have R3:Hid ((H.setCell (Q hb 8 U) (ZD ZG)).ownsRow w0.heap.size 9 1 (Z (T (Q ZL 0 U)) making.length f) making.length (b9 making)):=aA r.rst (λe=>by
    obtain⟨_,_,sm,D⟩:=aj r.rst hb e
    exact absurd (ar r.G D) (by decide)) _ _
   have hbw:hb≠w.heap.size:=λe=>absurd (ar r.G (e ▸ qr.out)) (by decide);have ZM:Hid ((H.setCell (Q hb 8 U) (ZD ZG)).heap[w.heap.size]?=_):=(qh _ _ _ _ (WJ hbw)).trans qr;have R:Hid (KS w0.heap.size XN w (H.setCell (Q hb 8 U) (ZD ZG))):=(KS.u (X:=XN) K2 ly l).to (KS.setCell H r.hbB (.inr λf t fz ZO=>.inr (.inr (ar ZO r.G))) _);have ZJ:w0.heap.size<=hb:=r.hbB;generalize World.setCell H _ _=b at At R3 ZM R ⊢;have F:Hid (ShBox b hb (Z a0 S.n0 c0) (Z a1 S.n1 c1) (Z (T (Q g 0 U)) L.length cap) or (Z (T (Q ZL 0 U)) making.length f) 0 ⟨#[]⟩ (Z U 0 0) ZG):=At.out;obtain⟨Fn,-,-,-,-,b4,-⟩:=F.K;rw[<-B.out] at b4;have LO:=ae (nV b 9 1);have A4:=ae ((q9 b).alloc ly (N #[] 9));have KB:Hid (∀q u,(b9 (making.drop j))[q]?=T u->(A b (N #[] 9)).cell? (((Q ZL j U):Addr).add q)=T u):=λq u hq=>by have h1:=(own_below R3 A4 ly).cells (g:=ZL) rfl (j+q) u (by rw[<-hq,b9,b9,NZ,NZ,List.getElem?_drop]);rw[addr_add,FM] at h1;rw[addr_add];exact h1
   have hjc:¬ f=j:=by omega
   have hI2:(0:Int)<=(j:Int):=by omega
   have hI3:(j:Int)<=(c:Int):=by omega
   have hI4:(c:Int)<=(f:Int):=by omega
   have DH:(b9 (making.drop j)).length=(c - j)*1:=by rw[b9,QX,LD,<-B.out,Nat.mul_one]
   have KC:=ae DH;have la:∀u∈b9 (making.drop j),u.oneCell'=ZG:=λu hu=>by rw[b9,QP] at hu;obtain⟨t,_,rfl⟩:=hu;rfl
   have Fd:=ae la;clear DH la;have HG:Hid (∀p:M,(A b (N #[] 9)).grownBy p (T b.heap.size)->p.heap[hb]?=b.heap[hb]?/\p.heap[w.heap.size]?=b.heap[w.heap.size]?):=λp hg=>by
    have hz:(A b (N #[] 9)).heap.size=b.heap.size+1:=by simp
    have KF:=ai ZM.out;exact⟨(hg.block hb (by omega) (λe=>by have O:hb=b.heap.size:=BC e;omega)).trans (A4.block hb Fn),(hg.block w.heap.size (by omega) (λe=>by have O:w.heap.size=b.heap.size:=BC e;omega)).trans (A4.block _ KF)⟩
   have bt:b.heap.size<=(A b (N #[] 9)).heap.size:=by simp
   have GS:(0+(c - j))*16<=140737488355328:=by omega
   have Fm:0+(c - j)<=maxLen:=by unfold maxLen;omega
   have DS:0+(c - j)≠0:=by omega
   go_wp2_with (first
    |(at_builtin;refine bC _ rfl (.tmp 129) (.tmp 135) 30 rfl b.heap.size 9 i1 (Y ⟨#[]⟩) 1 16 IB Kw Hx KD Kz rfl (by decide) (Z (T (Q b.heap.size 0 U)) 0 0) 0 [] (by simp[Act.eval]) LO.out (Q ZL j U) (c - j) (f - j) (b9 (making.drop j)) (by simp[Act.eval]) KC.out KB.out Fd.out Fm GS bt ?_;intro v4 p ZN o Ku;have O4:=ae ZN;have Bk:=ae (HG p o).1;have ro:=ae (HG p o).2;have G4:=ae o;obtain⟨E,c4,cu4,rfl,KQ⟩:=ZN.2.resolve_left (λh=>DS h.2);clear KQ ZN o Ku;obtain⟨hbl4,-,-,-,-,-,f5,f6,f7,-,ff⟩:=(ShBox.ab F Bk).K;have ff5:=ff 5;have ff6:=ff 6;have ff7:=ff 7;obtain⟨rl,r0,r1,r2,rf⟩:=bv (ro.trans ZM);have rf0:=rf 0;have rf1:=rf 1;have rf2:=rf 2;have hbw2:¬ w.heap.size=hb:=(λe=>hbw e.symm);have G:¬ hb=w.heap.size:=hbw;clear ff rf)
    |fail)
   refine bp (v:=.agg #[J I 6,Y ⟨#[]⟩,Z (T (Q E 0 U)) (c - j) c4]) (by simp[results,SS,go_sem,r0,r1,r2]) rfl ?_;have dg:(making.drop j).length=c - j:=by rw[LD,<-B.out]
   have V:=Bk.trans F.out;have ld:=ay V (j:=5) (J I 6);have ur:=ay ld (j:=6) (Y ⟨#[]⟩);have KJ:=ay ur (j:=7) (Z (T (Q E 0 U)) (c - j) c4);have K:(Value.slice (T (Q E 0 U)) (c - j) c4).ownBlock≠T hb:=λe=>by obtain⟨_,_,sm,D⟩:=aj O4 hb (by simpa[Value.ownBlock] using e);exact absurd (ar V D) (by decide)
   have ZQ:(Value.slice (T (Q E 0 U)) (c - j) c4).ownBlock≠T w.heap.size:=λe=>by obtain⟨_,_,sm,D⟩:=aj O4 w.heap.size (by simpa[Value.ownBlock] using e);exact absurd (ar (ro.trans ZM) D) (by decide)
   have o4:p.ownsRow w0.heap.size 9 1 (Z (T (Q E 0 U)) (c - j) c4) (c - j) (b9 (making.drop j)):=by have h1:=O4.out;rw[FM,LN] at h1;exact aB h1 (p7 l R.aa.size)
   have k4:KS w0.heap.size XN w p:=(R.to (KS.u (X:=XN) A4 ly (p7 l R.aa.size))).to (KS.of_grown G4 (p7 (p7 l R.aa.size) bt) λq hq=>by
    have O:q=b.heap.size:=(BC hq).symm;refine⟨by rw[O];exact p7 l R.aa.size,.inr λf t fz ZO=>?_⟩;rw[O] at ZO
    exact .inl (ar ZO (nL b _)))
   have ZR:∀(W:M) (f:Array ZC) (t:ZH) (fz:Nat × Nat),W.heap[hb]?=p.heap[hb]?∨(∃c2,W.heap[hb]?=T (N c2 117 (0,0)))->W.heap[hb]?=T (N f t fz)->t=9∨t=198∨t=117:=λW f t fz ZK ZO=>by
    rcases ZK with ZK|⟨c2,ZK⟩
    {exact .inr (.inr (ar ZO (ZK.trans V)))};{exact .inr (.inr (ar ZO ZK))}
   refine⟨T (Q E 0 U),c4,by rw[dg];rfl,⟨_,_,_,_,_,(qh _ _ _ _ G).trans ((qh _ _ _ _ G).trans ((qh _ _ _ _ G).trans (by rw[dg];exact KJ))),?_⟩,?_⟩;{show World.ownsRow _ _ _ _ _ (making.drop j).length _;rw[dg];exact aA (aA (aA (aA (aA (aA o4 K _ _) K _ _) K _ _) ZQ _ _) ZQ _ _) ZQ _ _}
   ·have k7:=((k4.to (KS.setCell (X:=XN) p ZJ (.inr λf t fz=>ZR _ f t fz (.inl rfl)) (J I 6) (j:=5))).to (KS.setCell (X:=XN) _ ZJ (.inr λf t fz=>ZR _ f t fz (.inr ⟨_,ld⟩)) (Y ⟨#[]⟩) (j:=6))).to (KS.setCell (X:=XN) _ ZJ (.inr λf t fz=>ZR _ f t fz (.inr ⟨_,ur⟩)) (Z (T (Q E 0 U)) (c - j) c4) (j:=7));refine((k7.trans (KS.setCell (X:=λi=>i=w.heap.size) _ l (Or.inl rfl) _) ?_).trans (KS.setCell (X:=λi=>i=w.heap.size) _ l (Or.inl rfl) _) ?_).trans (KS.setCell (X:=λi=>i=w.heap.size) _ l (Or.inl rfl) _) ?_;all_goals
     intro i hi h;have O:i=w.heap.size:=h;omega
end
def gB (nm:ByteArray):SM:=⟨nm,0,⟨#[]⟩,[],Z U 0 0,ZA⟩
theorem FQ (w:M)(c b g i m l:ZC)(t:ZH):∀j u,[c,b,g,i,m,l][j]?=T u->(A w (N #[c,b,g,i,m,l] t)).cell? (((Q w.heap.size 0 U):Addr).add j)=T u:=by
 intro j u h;rw[addr_add];have hj:j<6:=by
  rcases PJ j 6 with f|f;{exact f};{rw[OH (by simp;omega)] at h;cases h}
 rcases(show j=0∨j=1∨j=2∨j=3∨j=4∨j=5 by omega) with rfl|rfl|rfl|rfl|rfl|rfl;all_goals
  simp at h;subst h;simp
theorem pA (w:M)(v:ZC)(t:ZH):∀j u,[v][j]?=T u->(A w (N #[v] t)).cell? (((Q w.heap.size 0 U):Addr).add j)=T u:=by
 intro j u h;rw[addr_add];have c:j=0:=by
  rcases PJ j 1 with b|b;{omega};{rw[OH (by simp;omega)] at h;cases h}
 subst c;simp at h;subst h;simp
theorem j6{v:ZC}{c:List ZC}(h:w.ownsRow b e size v n c):∃a cap,v=Z a n cap:=by
 obtain⟨_,⟨rfl,rfl⟩|⟨g,cap,cur,rfl,_⟩⟩:=h;{exact⟨U,0,rfl⟩};{exact⟨_,_,rfl⟩}
theorem KS.fresh{W:M}(h:KS B XN W w)(hb:W.heap.size<=b)(f:B<=W.heap.size)(j:Nat)(u:ZC):KS B XN W (w.setCell (Q b j U) u) :=
 h.trans (KS.setCell (X:=λi=>i=b) w (p7 f hb) (Or.inl rfl) u) λi hi c=>by have e2:i=b:=c;omega
section
variable {w0 w:M}{hb:Nat}{s0 s1 or st:ZC}{making:List ByteArray}{made:List Ent}{L:List SM}
theorem SI.upd'{k:Nat}(i:L.length=ZO)(h:SI w0 hb s0 s1 w making made L (Z (T (Q g 0 U)) ZO cap) or st)(b:L[k]?=T m)(l:j<6)(c:smV m'=(smV m).set j u)(f:m'.done=ZG->w.ownsRow w0.heap.size 201 3 m'.sv m'.c.length (eF m'.c)):SI w0 hb s0 s1 (w.setCell (Q g (k*6+j) U) u) making made (L.set k m') (Z (T (Q g 0 U)) ZO cap) or st/\KS w0.heap.size XN w (w.setCell (Q g (k*6+j) U) u)/\(L.set k m')[k]?=T m'/\(L.set k m').length=ZO:=by subst i;have:=h.upd b l c f;rw[KK] at this;exact⟨this.1,this.2,PU (n8.1 b).1,KK⟩
theorem SI.told{k:Nat}(t:L.length=ZO)(h:SI w0 hb s0 s1 w making made L (Z (T (Q g 0 U)) ZO cap) or st)(p:L[k]?=T m)(o:m.done=ZA)(b:Int)(rt:ByteArray):SI w0 hb s0 s1 (((w.setCell (Q g (k*6+1) U) (J I b)).setCell (Q g (k*6+1+1) U) (Y rt)).setCell (Q g (k*6+1+2) U) (Z U 0 0)) making made (L.set k ⟨m.e,b,rt,m.c,m.sv,ZA⟩) (Z (T (Q g 0 U)) ZO cap) or st/\KS w0.heap.size XN w (((w.setCell (Q g (k*6+1) U) (J I b)).setCell (Q g (k*6+1+1) U) (Y rt)).setCell (Q g (k*6+1+2) U) (Z U 0 0))/\(L.set k ⟨m.e,b,rt,m.c,m.sv,ZA⟩)[k]?=T ⟨m.e,b,rt,m.c,m.sv,ZA⟩/\(L.set k ⟨m.e,b,rt,m.c,m.sv,ZA⟩).length=ZO:=by obtain⟨a1,y,z,n⟩:=h.upd' t p (j:=1) (by omega) (u:=J I b) (m':=⟨m.e,b,m.B,m.c,m.sv,ZA⟩) (by simp[smV,o]) (λh=>by cases h);obtain⟨x,s,l,r⟩:=a1.upd' n z (j:=2) (by omega) (u:=Y rt) (m':=⟨m.e,b,rt,m.c,m.sv,ZA⟩) rfl (λh=>by cases h);obtain⟨c,q,i,f⟩:=x.upd' r l (j:=3) (by omega) (m':=⟨m.e,b,rt,m.c,m.sv,ZA⟩) (u:=Z U 0 0) rfl (λh=>by cases h);rw[VG,VG] at c i f;exact⟨c,(y.to s).to q,i,f⟩
end
theorem Ka{z:Int}(h0:0<=z)(h1:z<=1048576):IntKind.i64.wrap z=z:=by rw[p9];omega
theorem JC{c:Nat}{t:ZH}{v:ZC}{j:List ZC}{i:Array ZC}{fz:Nat × Nat}(h:w.ownsRow c e size v n j)(hb:w.heap[b]?=T (N i t fz))(f:e≠t):v.ownBlock≠T b:=λk=>by obtain⟨_,_,cs',g⟩:=aj h b k;exact f (ar g hb)
theorem JD{w':M}{v:ZC}{b:List ZC}(h:w.ownsRow B 201 3 v n b)(c:KS B XN w w'):w'.ownsRow B 201 3 v n b:=dv h λk e=>by obtain⟨_,_,cs,f⟩:=aj h k e;exact c.ab _ _ _ _ f (by decide) (by decide) (by decide) λh=>h
theorem LExt.add (n:Nat)(L:List SM)(g:m.done=ZA):LExt n L (L++[m]):=by
 refine⟨λi f b=>⟨f,?_,rfl⟩,λf b c=>?_⟩;{rw[N9 (n8.1 b).1];exact b};{rcases p8.1 b with b|b;{exact .inl ⟨f,b,c,rfl⟩};{rw[nD.1 b,g] at c;cases c}}
theorem LExt.set{k:Nat}{g:List SM}{c:SM}(h:LExt n L g)(q:g[k]?=T m)(s:c.e=m.e)(t:∀j,c.sv.ownBlock=T j->n<=j):LExt n L (g.set k c):=by
 refine⟨λi l b=>?_,λl b p=>?_⟩
 ·obtain⟨u,h3,o⟩:=h.nam i l b;by_cases f:k=i
  ·subst f;rw[q] at h3;cases h3
   exact⟨c,PU (n8.1 q).1,s.trans o⟩
  {exact⟨u,by rw[QK f];exact h3,o⟩}
 {rcases OV b with r|rfl;{exact h.sn l r p};{exact .inr t}}
section
variable {w0:M}{S:Spc}{a0 a1:Option Addr}{c0 c1 hb:Nat}{md or st:ZC}{making:List ByteArray}{made:List Ent}{L:List SM}
set_option linter.unusedVariables false in
theorem mE:(∀(C:pt w0 S a0 a1) (w:M) (nm:ByteArray) (h:SI w0 hb (Z a0 S.n0 c0) (Z a1 S.n1 c1) w making made L md or st) (Lh:L.length<=100000) (MJ:made.length<=100000) (h1:fI L nm=U) (h3:atI (nm1 S.f1) S.n1 nm=U) (f:Int) (tx:ByteArray) (hw:(atI (nm0 S.f0) S.n0 nm=U/\f=4/\tx=nm)∨∃si,atI (nm0 S.f0) S.n0 nm=T si/\f=0/\tx=(S.f0 si).B) (kd:Int) (te:ByteArray),Calls Pg 130 #[.pointer (T (Q hb 0 U)),Y nm] w λe w'=>∃KD KE,e=ZF (.agg #[J I f,Y tx,Z U 0 0])/\SI w0 hb (Z a0 S.n0 c0) (Z a1 S.n1 c1) w' making (made++[⟨nm,kd,0,te,0,[]⟩]) ((L++[gB nm]).set L.length ⟨nm,f,tx,[],Z U 0 0,ZG⟩) KD KE st/\KS w0.heap.size XN w w')/\(∀(C:pt w0 S a0 a1) (w:M) (nm:ByteArray) (h:SI w0 hb (Z a0 S.n0 c0) (Z a1 S.n1 c1) w making made L md or st) (Lh:L.length<=100000) (h1:fI L nm=U) (hi:atL making nm=U) (tg:Nat) (h3:atI (nm1 S.f1) S.n1 nm=T tg) (X:Out Ent) (hd:(making.length=60/\X=.inr (.inr nm))∨∃n',making.length+(n'+1)=60/\nE w0 S hb (Z a0 S.n0 c0) (Z a1 S.n1 c1) n'/\fG L making made/\PG S making made/\fi S making made 1/\MT S making/\cL made nm=U/\X=ny nm tg (dW S (bH S n' (making++[nm])) tg 201 made [] [])),Calls Pg 130 #[.pointer (T (Q hb 0 U)),Y nm] w λe w'=>mC w0 hb (Z a0 S.n0 c0) (Z a1 S.n1 c1) making L w e w' X):=by
 refine⟨λC w nm h Lh MJ h1 h3 f tx hw kd te=>?_,λC w nm h Lh h1 hi tg h3 X hd=>?_⟩;rotate_left;focus
  rcases hd with ⟨KM,hX⟩|⟨n',MS,HK,hrel,hp,ur,MI,ZL,hX⟩
  case' inl=>(subst hX;have DEEP:=True.intro)
  case' inr =>
   obtain⟨-,aq⟩:=Dj hrel ZL hi;have hmade:made.length<=50000:=by unfold fi at ur;omega
   have KM:making.length<60:=by omega
   have sm:=(cW h3).1;obtain⟨R,hR⟩:∃R,R=dW S (bH S n' (making++[nm])) tg 201 made [] []:=⟨_,rfl⟩
   have HR:=ae hR;obtain⟨tb,Mz,ME,LI⟩:=C.R.resolve_left (by omega);have Nr:=ae ME;have KU:=ae LI;have LZ:Hid (∀(W:M) (KD KE Mo:ZC) (a:Option Addr) (cap:Nat),SI w0 hb (Z a0 S.n0 c0) (Z a1 S.n1 c1) W (making++[nm]) made (L++[gB nm]) KD KE Mo->SlIns w0 a (S.f1 tg).f (S.f1 tg).H->Calls Pg 184 #[.pointer (T (Q hb 0 U)),.agg #[Z a (S.f1 tg).f cap]] W λe w'=>py w0 hb (Z a0 S.n0 c0) (Z a1 S.n1 c1) (making++[nm]) (L++[gB nm]) W e w' R):=by
    intro W KD KE Mo a cap hS KX;rw[hR];refine FG C n' HK made _ KD KE Mo W a cap tg (by rw[cM,DW];omega) hS (sW hrel aq rfl rfl) (ru hp ZL) ?_ ?_ sm KX
    ·have:=iV sm (cW h3).2 ZL hi
     unfold fi at ur ⊢;omega
    ·intro t ht
     rcases p8.1 ht with ht|ht
     ·exact MI t ht
     ·rw[nD.1 ht,h3];rfl
   have HI:=ae hi;have H0:=ae ZL;have ML:Hid (∀E x,R=.inl (E,x)->E.length<=100000/\∀y∈E,y.e≠nm):=by intro E x he;rw[hR] at he;have g1:=sM C.ok sm (my C.ok n' (making++[nm])) _ _ _ _ _ _ (ru hp ZL) (vm S made) rfl he;have l:=sL (λmade NN Ms e=>mx S n' (making++[nm]) made NN Ms e) _ _ _ _ _ _ he;have g3:=iV sm (cW h3).2 ZL hi;refine⟨?_,(ry g1.1).2⟩;unfold gA at l;unfold fi at ur;omega
   have MD:=ae aq;have HREL:=ae hrel;subst hX;rw[<-hR];clear HK hp ur MI ZL LI ME hR aq hrel;clear MS sm
 all_goals
  obtain⟨im,Np,Nh,DS,Lx⟩:=lE Fz;obtain⟨i1,Mc,LX,Lt,Lr⟩:=lE pu;obtain⟨W0,KN⟩:∃W:M,A w (N #[J I 0,Y ⟨#[]⟩,Z U 0 0] 39)=W:=⟨_,rfl⟩
  obtain⟨A0,kr,-⟩:=nb1 KN;have LH:=ae KN;clear KN;have S0:=ae (h.aa A0 ly);have D:w0.heap.size<=w.heap.size:=h.lt;have e1:ej (fI L nm)=-1:=by rw[h1];rfl
  obtain⟨am,cm,rfl⟩:=j6 h.W;obtain⟨n,hn⟩:∃n,n=L.length:=⟨_,rfl⟩
  have HN:=ae hn;have CC:=ae C;have hsm:=C.ok.av;have hn1:n<=100000:=by omega
  clear h h1 hn C
 rotate_left 2;focus
  have et:ej (atI (nm1 S.f1) S.n1 nm)=-1:=by rw[h3];rfl
  rcases hw with ⟨h2,DH,Lo⟩|⟨si,h2,DH,Lo⟩
  case' inl=>have es:ej (atI (nm0 S.f0) S.n0 nm)=-1:=by rw[h2];rfl
  case' inr =>
   have es:ej (atI (nm0 S.f0) S.n0 nm)=(si:Int):=by rw[h2];rfl
   have Nz:=(cW h2).1;obtain⟨sb,so,MR,Mw⟩:∃sb so,a0=T (Q sb so U)/\RowSource w0 sb so S.n0 S.f0:=by
    rcases CC.src with h|⟨b,off,e,hr⟩
    ·omega
    ·exact⟨b,off,e,hr⟩
   have Ls:=ae Mw;have Nu:=ae MR;clear Mw MR
  all_goals
   have My:=ae Lo;have MM:=ae DH;clear h2 h3 Lo DH
 rotate_left 2;iterate 2
  focus
   obtain⟨es0,es⟩:∃z,ej (atI (nm0 S.f0) S.n0 nm)=z:=⟨_,rfl⟩
   have et:ej (atI (nm1 S.f1) S.n1 nm)=(tg:Int):=by rw[h3];rfl
   have Lq:∀(j:Nat) (y:ByteArray),making[j]?=T y->(y.toList == nm.toList)=ZA:=λj y hy=>by unfold atL at hi;rw[SH] at hi;exact hi y (LB hy)
   have Ny:=ae Lq;obtain⟨ms,Md⟩:∃ms,ms=making.length:=⟨_,rfl⟩
   have fd:=ae Md;have hT0:(0:Int)<=(tg:Int):=by omega
   have sm:=(cW h3).1;rw[<-Md] at KM;obtain⟨MC,MN,rfl⟩:=j6 S0.rst;clear h3 hi Lq Md
  rotate_left
 all_goals
  go_enter func130,ntmps130;go_wp2_with fail;rw[LH.out];clear LH;refine(pr W0 nm S0 Lh).mono ?_;rintro e w1 ⟨rfl,MK⟩;rw[MK,e1];clear MK e1;obtain⟨G,-,-,b2,-⟩:=S0.G.K;rw[<-HN.out] at b2;have A1:=ae ((q9 W0).alloc ly (N #[Y nm,J I 0,Y ⟨#[]⟩,Z U 0 0,Z U 0 0,ZD ZA] 198));have SA:=ae (S0.aa A1 ly);have RM:=ae (by have h:=SA.W;rw[<-HN.out] at h;exact h);have NJ:(A W0 (N #[Y nm,J I 0,Y ⟨#[]⟩,Z U 0 0,Z U 0 0,ZD ZA] 198)).heap.size=W0.heap.size+1:=by simp
  have HG:Hid (∀H:M,(A W0 (N #[Y nm,J I 0,Y ⟨#[]⟩,Z U 0 0,Z U 0 0,ZD ZA] 198)).grownBy H (Value.slice am n cm).ownBlock->H.heap[hb]?=(A W0 (N #[Y nm,J I 0,Y ⟨#[]⟩,Z U 0 0,Z U 0 0,ZD ZA] 198)).heap[hb]?):=λH hg=>hg.block hb (by omega) λe=>by obtain⟨_,_,cs,hc⟩:=aj RM hb e.symm;exact absurd (ar SA.G hc) (by decide)
  have MW:w0.heap.size<=(A W0 (N #[Y nm,J I 0,Y ⟨#[]⟩,Z U 0 0,Z U 0 0,ZD ZA] 198)).heap.size:=SA.lt;have hz1':W0.heap.size<(A W0 (N #[Y nm,J I 0,Y ⟨#[]⟩,Z U 0 0,Z U 0 0,ZD ZA] 198)).heap.size:=by omega
  clear NJ
  go_upto_region 7 with (first
   |(at_builtin;refine bC _ rfl (.tmp 46) (.tmp 49) 115 rfl w0.heap.size 198 im (.agg #[Y ⟨#[]⟩,J I 0,Y ⟨#[]⟩,Z U 0 0,Z U 0 0,ZD ZA]) 6 96 underlying115 Np Nh DS Lx rfl (by decide) (Z am n cm) n (L.flatMap smV) (by simp[Act.eval]) RM.out (Q W0.heap.size 0 U) 1 1 [Y nm,J I 0,Y ⟨#[]⟩,Z U 0 0,Z U 0 0,ZD ZA] (by simp[Act.eval]) rfl (FQ W0 _ _ _ _ _ _ _) (by simp[Value.oneCell']) (by unfold maxLen;omega) (by omega) MW ?_;intro v2 H F o la;have O2:=ae F;have G2:=ae o;have MP:=ae (HG H o);obtain⟨l,GS,cu2,rfl,Nx⟩:=F.2.resolve_left (λh=>by omega);clear Nx F o la;obtain⟨Ng,-,-,f2,-,-,-,-,-,-,ff⟩:=(ShBox.ab SA.G MP).K;have Nl:=ff 2;clear ff)
   |fail)
  have SX:=ae (SA.addL (m:=gB nm) (w':=H) (v:=Z (T (Q l 0 U)) (n+1) GS) (by rw[<-HN.out];exact G2) (by rw[<-HN.out];exact O2) rfl);have S3:=ae SX.1;have K3:Hid (KS w0.heap.size XN w (H.setCell (Q hb 2 U) (Z (T (Q l 0 U)) (n+1) GS))):=((KS.u (X:=XN) A0 ly D).to (KS.u A1 ly S0.lt)).to SX.2;have La:Hid ((H.setCell (Q hb 2 U) (Z (T (Q l 0 U)) (n+1) GS)).heap[w.heap.size]?=T (N #[J I 0,Y ⟨#[]⟩,Z U 0 0] 39 (0,0))):=by have ZL:=(A1.block _ (ai kr)).trans kr;exact(SX.2.ab _ _ _ _ ZL (by decide) (by decide) (by decide) λh=>h).trans ZL
  have bt:(L++[gB nm]).length=n+1:=by rw[cM,DW,<-HN.out]
  have dg:Hid ((L++[gB nm])[n]?=T (gB nm)):=by rw[HN.out];show _=_;rw[IX ly,Nat.sub_self];rfl
  clear SX f2 Nl Ng b2 G RM SA A1 HG O2 G2 MP;generalize World.setCell H _ _=W3 at S3 K3 La ⊢;obtain⟨G,b0,b1,-⟩:=S3.G.K;go_wp2_with fail;refine(iY a0 S.n0 c0 a1 S.n1 c1 S.f0 nm W3 (by omega) (CC.src.aa S3.ao ly)).mono ?_;rintro e w4 ⟨he,hB⟩;rw[es] at he;subst he;have S4:=ae (S3.aa hB ly);have L9:Hid (w4.heap[w.heap.size]?=_):=(hB.block _ (ai La)).trans La;have K4:=ae (K3.to (KS.u (X:=XN) hB ly S3.lt));clear hB b0 b1 G S3 K3 La;obtain⟨G,b0,b1,-⟩:=S4.G.K;go_wp2_with fail;refine(iZ a0 S.n0 c0 a1 S.n1 c1 S.f1 nm w4 (by omega) (CC.R.aa S4.ao ly)).mono ?_;rintro e O ⟨he,hB⟩;rw[et] at he;subst he;have S5:=ae (S4.aa hB ly);have ro:Hid (O.heap[w.heap.size]?=T (N #[J I 0,Y ⟨#[]⟩,Z U 0 0] 39 (0,0))):=(hB.block _ (ai L9)).trans L9;have K5:=ae (K4.to (KS.u (X:=XN) hB ly S4.lt));clear hB b0 b1 G S4 K4 L9 A0 S0 kr
 iterate 2
  ·first
    |guard_hyp Ls
     have A5:=ae ((q9 O).alloc ly (N #[J I 4,Y nm,Z U 0 0] 39));have LQ:=ae (S5.aa A5 ly);have hI0:(0:Int)<=(si:Int):=by omega
     have hI1:(si:Int)<(S.n0:Int):=by omega
     have q0:(A O (N #[J I 4,Y nm,Z U 0 0] 39)).cell? (Q hb 0 U)=T (Z (T (Q sb so U)) S.n0 c0):=by have h:=LQ.G.K.2.1;rw[Nu.out] at h;exact h
     have q1:(A O (N #[J I 4,Y nm,Z U 0 0] 39)).cell? (Q sb (so+si*2+1) U)=T (Y tx):=by rw[My.out];exact((Ls.aa LQ.ao ly).2 si Nz).2
     have G:=S5.G.K.1;have ql:sb<O.heap.size:=lj Ls.1 S5.lt;go_upto_region 13 with fail;clear q0 q1 ql G A5 LQ;obtain⟨ZR,KQ⟩:∃W:M,A O (N #[J I 0,Y tx,Z U 0 0] 39)=W:=⟨_,rfl⟩
     obtain⟨A6,-,-⟩:=nb1 KQ;have KO:=ae KQ;clear KQ;have ZK:Hid (ZR.heap[O.heap.size]?=T (N #[J I f,Y tx,Z U 0 0] 39 (0,0))):=by rw[<-KO.out];rw[MM.out];exact nL _ _
     rw[KO.out];clear KO
    |skip
     go_upto_region 13 with fail;have ZK:Hid ((A O (N #[J I 4,Y nm,Z U 0 0] 39)).heap[O.heap.size]?=T (N #[J I f,Y tx,Z U 0 0] 39 (0,0))):=by rw[MM.out,My.out];exact nL _ _
     have A6:=ae ((q9 O).alloc ly (N #[J I 4,Y nm,Z U 0 0] 39));generalize World.alloc O _=ZR at A6 ZK ⊢
   have P:=ae (S5.aa A6 ly);have th:Hid (ZR.heap[w.heap.size]?=T (N #[J I 0,Y ⟨#[]⟩,Z U 0 0] 39 (0,0))):=(A6.block _ (ai ro)).trans ro;have K6:=ae (K5.to (KS.u (X:=XN) A6 ly S5.lt));obtain⟨s,KC⟩:∃s,s=O.heap.size:=⟨_,rfl⟩
   rw[<-KC] at ZK ⊢;have MX:w.heap.size<=s:=by have:=K5.aa.size;omega
   clear KC A6 S5 ro K5;obtain⟨G,-,-,b2,-⟩:=P.G.K;obtain⟨rl,r0,r1,r2,-⟩:=bv ZK;obtain⟨MZ,M5,Lj,Bk⟩:=aj P.W l rfl;have Fd:=ae Bk;have R6:=ae (by have h:=P.W;rw[bt] at h;exact h);have q1:ZR.cell? (Q l (n*6+1) U)=T (J I 0):=cE (by rw[bt];exact R6) dg 1 (by omega) rfl;have q2:ZR.cell? (Q l (n*6+1+1) U)=T (Y ⟨#[]⟩):=cE (by rw[bt];exact R6) dg 2 (by omega) rfl;have q3:ZR.cell? (Q l (n*6+1+2) U)=T (Z U 0 0):=cE (by rw[bt];exact R6) dg 3 (by omega) rfl;have qf:∀j,ZR.frozen? (Q l j U)=ZA:=λj=>by simp[World.frozen?,Bk]
   have Mb:=qf (n*6+1);have Lp:=qf (n*6+1+1);have Ma:=qf (n*6+1+2);clear qf Bk;have NT:(n:Int)<(n:Int)+1:=by omega
   have ld:l≠hb:=by intro e;have h:=Fd.out;rw[e] at h;exact absurd (ar h P.G) (by decide)
   have r:l≠s:=by intro e;have h:=Fd.out;rw[e] at h;exact absurd (ar h ZK) (by decide)
   refine wp_region_held_drew (S:=λV=>V.cell? (Q hb 2 U)=T (Z (T (Q l 0 U)) (n+1) GS)/\V.cell? (Q s 0 U)=T (J I f)/\V.cell? (Q s 1 U)=T (Y tx)/\V.cell? (Q s 2 U)=T (Z U 0 0)) (by kernel_rfl) ⟨b2,r0,r1,r2⟩ λhS=>?_;have HS:=ae hS;clear hS
   iterate 8
    first|refine bI 0 (v:=?_) rfl rfl (by kernel_rfl) (λ_ _ _ h=>h) rfl ?_ HS ?_|refine bI 4 (v:=?_) rfl rfl (by kernel_rfl) (λ_ _ _ h=>h) rfl ?_ HS ?_
    rotate_left
    ·(rintro wz ⟨s0,s1,s2,s3⟩;go_simp)
     (try with_reducible rfl)
    (try simp only[Act.put,nzL])
   have TL:=ae (P.told bt dg rfl f tx)
   have Kx:Hid ((((ZR.setCell (Q l (n*6+1) U) (J I f)).setCell (Q l (n*6+1+1) U) (Y tx)).setCell (Q l (n*6+1+2) U) (Z U 0 0)).drew.cell? (Q hb 2 U)=T (Z (T (Q l 0 U)) (n+1) GS)/\(((ZR.setCell (Q l (n*6+1) U) (J I f)).setCell (Q l (n*6+1+1) U) (Y tx)).setCell (Q l (n*6+1+2) U) (Z U 0 0)).drew.cell? (Q s 0 U)=T (J I f)/\(((ZR.setCell (Q l (n*6+1) U) (J I f)).setCell (Q l (n*6+1+1) U) (Y tx)).setCell (Q l (n*6+1+2) U) (Z U 0 0)).drew.cell? (Q s 1 U)=T (Y tx)/\(((ZR.setCell (Q l (n*6+1) U) (J I f)).setCell (Q l (n*6+1+1) U) (Y tx)).setCell (Q l (n*6+1+2) U) (Z U 0 0)).drew.cell? (Q s 2 U)=T (Z U 0 0)) :=
    ⟨(cell_far _ _ _ _ ld).trans ((cell_far _ _ _ _ ld).trans ((cell_far _ _ _ _ ld).trans b2)),(cell_far _ _ _ _ r).trans ((cell_far _ _ _ _ r).trans ((cell_far _ _ _ _ r).trans r0)),(cell_far _ _ _ _ r).trans ((cell_far _ _ _ _ r).trans ((cell_far _ _ _ _ r).trans r1)),(cell_far _ _ _ _ r).trans ((cell_far _ _ _ _ r).trans ((cell_far _ _ _ _ r).trans r2))⟩
   refine aS (i:=8) rfl (by kernel_rfl) λK hK=>?_;go_simp;refine hK _ _ Kx ?_;clear hK K HS q1 q2 q3 Mb Lp Ma b2 r0 r1 r2 rl
   (try simp only[Act.put])
   refine wpAnyH_done (by kernel_rfl) ?_ _;have D7:Hid (Below (((ZR.setCell (Q l (n*6+1) U) (J I f)).setCell (Q l (n*6+1+1) U) (Y tx)).setCell (Q l (n*6+1+2) U) (Z U 0 0)).heap.size (((ZR.setCell (Q l (n*6+1) U) (J I f)).setCell (Q l (n*6+1+1) U) (Y tx)).setCell (Q l (n*6+1+2) U) (Z U 0 0)) (((ZR.setCell (Q l (n*6+1) U) (J I f)).setCell (Q l (n*6+1+1) U) (Y tx)).setCell (Q l (n*6+1+2) U) (Z U 0 0)).drew):=br.drew;have S7:=ae (TL.1.aa D7 ly);have K7:=ae (K6.to (TL.2.1.to (KS.u (X:=XN) D7 ly TL.1.lt)));have Kz:=TL.2.2.1;have KB:=TL.2.2.2;have ZQ:Hid ((((ZR.setCell (Q l (n*6+1) U) (J I f)).setCell (Q l (n*6+1+1) U) (Y tx)).setCell (Q l (n*6+1+2) U) (Z U 0 0)).drew.heap[w.heap.size]?=T (N #[J I 0,Y ⟨#[]⟩,Z U 0 0] 39 (0,0))):=by have ZL:=(TL.2.1.ab _ _ _ _ th (by decide) (by decide) (by decide) λh=>h).trans th;exact ZL
   have mv:Hid ((((ZR.setCell (Q l (n*6+1) U) (J I f)).setCell (Q l (n*6+1+1) U) (Y tx)).setCell (Q l (n*6+1+2) U) (Z U 0 0)).drew.heap[s]?=T (N #[J I f,Y tx,Z U 0 0] 39 (0,0))):=by have ZL:=(TL.2.1.ab _ _ _ _ ZK (by decide) (by decide) (by decide) λh=>h).trans ZK;exact ZL
   have Fn:=ae Kz;have Fm:=ae KB;clear TL Kx Kz KB th ZK K6 P R6 Fd D7;generalize World.drew (World.setCell (World.setCell (World.setCell ZR _ _) _ _) _ _)=W7 at S7 K7 ZQ mv ⊢;obtain⟨G,-,-,b2,-⟩:=S7.G.K;obtain⟨KZ,Lc,MH,qr⟩:=aj S7.W l rfl;have q5:W7.cell? (Q l (n*6+5) U)=T (ZD ZA):=cE (by have h:=S7.W;rw[Fm.out] at h ⊢;exact h) Fn 5 (by omega) rfl;have Ll:W7.frozen? (Q l (n*6+5) U)=ZA:=by simp[World.frozen?,qr]
   have ZI:=ae (S7.upd' Fm Fn (j:=5) (by omega) (u:=ZD ZG) (m':=⟨nm,f,tx,[],Z U 0 0,ZG⟩) rfl (λ_=>⟨rfl,.inl ⟨rfl,rfl⟩⟩));have B:Hid ((W7.setCell (Q l (n*6+5) U) (ZD ZG)).heap[w.heap.size]?=T (N #[J I 0,Y ⟨#[]⟩,Z U 0 0] 39 (0,0))):=(ZI.2.1.ab _ _ _ _ ZQ (by decide) (by decide) (by decide) λh=>h).trans ZQ;have ZJ:Hid ((W7.setCell (Q l (n*6+5) U) (ZD ZG)).heap[s]?=T (N #[J I f,Y tx,Z U 0 0] 39 (0,0))):=(ZI.2.1.ab _ _ _ _ mv (by decide) (by decide) (by decide) λh=>h).trans mv;have S8:=ae ZI.1;have K8:=ae (K7.to ZI.2.1);clear qr;go_upto_region 15 with fail;clear b2 q5 Ll ZI S7 K7 ZQ mv;generalize World.setCell W7 _ _=ZP at S8 K8 B ZJ ⊢;obtain⟨ao,co,rfl⟩:=j6 S8.ror;obtain⟨q,hq⟩:∃q,q=made.length:=⟨_,rfl⟩
   have HQ:=ae hq;rw[<-hq] at MJ;clear hq;obtain⟨G,-,-,-,b3,-⟩:=S8.G.K;rw[<-HQ.out] at b3;have ZN:=ae ((q9 ZP).alloc ly (N #[Y nm] 9));have S9:=ae (S8.aa ZN ly);have RO:=ae (by have h:=S9.ror;rw[<-HQ.out] at h;exact h);have KT:w0.heap.size<=(A ZP (N #[Y nm] 9)).heap.size:=S9.lt;have HG:Hid (∀H:M,(A ZP (N #[Y nm] 9)).grownBy H (Value.slice ao q co).ownBlock->H.heap[hb]?=(A ZP (N #[Y nm] 9)).heap[hb]?/\H.heap[w.heap.size]?=(A ZP (N #[Y nm] 9)).heap[w.heap.size]?/\H.heap[s]?=(A ZP (N #[Y nm] 9)).heap[s]?):=λH hg=>by
    have aq:∀(i:Nat) (cs:Array ZC) (t:ZH) (fz:Nat × Nat),(A ZP (N #[Y nm] 9)).heap[i]?=T (Obj.cells cs t fz)->t≠9->H.heap[i]?=(A ZP (N #[Y nm] 9)).heap[i]?:=λi cs t fz hi ht=>hg.block i (ai hi) λe=>by obtain⟨_,_,Lj,hc⟩:=aj RO i e.symm;exact ht (ar hi hc)
    exact⟨aq _ _ _ _ S9.G (by decide),aq _ _ _ _ ((ZN.block _ (ai B)).trans B) (by decide),aq _ _ _ _ ((ZN.block _ (ai ZJ)).trans ZJ) (by decide)⟩
   have Kw:Hid ((A ZP (N #[Y nm] 9)).heap[w.heap.size]?=T (N #[J I 0,Y ⟨#[]⟩,Z U 0 0] 39 (0,0))):=(ZN.block _ (ai B)).trans B;have Mm:Hid ((A ZP (N #[Y nm] 9)).heap[s]?=T (N #[J I f,Y tx,Z U 0 0] 39 (0,0))):=(ZN.block _ (ai ZJ)).trans ZJ;have hbw:¬ hb=w.heap.size:=λe=>by have h:=S8.G;unfold ShBox at h;rw[e] at h;exact absurd (ar h B) (by decide)
   have DE:¬ w.heap.size=hb:=λe=>hbw e.symm;have Mh:¬ hb=s:=λe=>by have h:=S8.G;unfold ShBox at h;rw[e] at h;exact absurd (ar h ZJ) (by decide)
   have Nd:¬ s=hb:=λe=>Mh e.symm
   go_wp2_with (first
    |(at_builtin;refine bC _ rfl (.tmp 100) (.tmp 102) 30 rfl w0.heap.size 9 i1 (Y ⟨#[]⟩) 1 16 IB Mc LX Lt Lr rfl (by decide) (Z ao q co) q (b9 (made.map (·.e))) (by simp[Act.eval]) RO.out (Q ZP.heap.size 0 U) 1 1 [Y nm] (by simp[Act.eval]) rfl (pA ZP _ _) (by simp[Value.oneCell']) (by unfold maxLen;omega) (by omega) KT ?_;intro v9 w9 F o la;have O9:=ae F;have G9:=ae o;have Lm:=ae la;have ph:=ae (HG w9 o);obtain⟨g9,c9,NR,rfl,Me⟩:=F.2.resolve_left (λh=>by omega);clear Me F o la;obtain⟨Nc,-,-,-,f3,-,-,-,-,-,ff⟩:=(ShBox.ab S9.G ph.1).K;have NV:=ff 3;obtain⟨rl,r0,r1,r2,rf⟩:=bv (ph.2.1.trans Kw);have Lw:=rf 0;have Mk:=rf 1;have LU:=rf 2;obtain⟨pl,p0,p1,p2,pf⟩:=bv (ph.2.2.trans Mm);clear ff rf pf)
    |fail)
   have KJ:=ae (S9.ord (x:=⟨nm,kd,0,te,0,[]⟩) (w':=w9) (v:=Z (T (Q g9 0 U)) (q+1) c9) (by rw[<-HQ.out];exact G9) (by rw[<-HQ.out];exact O9) (by rw[<-HQ.out];exact Lm));refine bp (v:=.agg #[J I f,Y tx,Z U 0 0]) (by simp[results,SS,go_sem,r0,r1,r2]) rfl ?_;have KF:=(qh w9 (Q hb 3 U) (Z (T (Q g9 0 U)) (q+1) c9) w.heap.size DE).trans (ph.2.1.trans Kw);refine⟨Z (T (Q l 0 U)) (n+1) GS,Z (T (Q g9 0 U)) (q+1) c9,rfl,?_,?_⟩
   ·rw[<-HN.out]
    have x0:=KJ.1;rw[VG] at x0;replace x0:=x0.X KF ⟨by decide,by decide,by decide,by decide⟩ D 0 (J I f);have y0:=ay KF (j:=0) (J I f);have x1:=x0.X y0 ⟨by decide,by decide,by decide,by decide⟩ D 1 (Y tx);exact x1.X (ay y0 (j:=1) (Y tx)) ⟨by decide,by decide,by decide,by decide⟩ D 2 (Z U 0 0)
   ·have k0:=(K8.to (KS.u (X:=XN) ZN ly S8.lt)).to KJ.2
    exact((k0.fresh ly D 0 _).fresh ly D 1 _).fresh ly D 2 _
 all_goals
  obtain⟨G,-,-,-,-,b4,b5,b6,b7,b8,bf⟩:=S5.G.K;have Mq:=bf 4;have Nt:=bf 5;have Ni:=bf 6;have NF:=bf 7;have NQ:=bf 8;rw[<-fd.out] at b4;clear bf;go_wp2_with fail;go_loop [9] (λi=>∃j:Nat,j<=ms/\i=J I j) (λi=>ms - (intOf i).toNat);case atStart=>exact⟨0,by omega,rfl⟩
  case' round =>
  obtain⟨j,hj,rfl⟩:=hrel;by_cases hlt:j<ms
  ·obtain⟨y,hy⟩:∃y,making[j]?=T y:=⟨_,gq (by have:=fd.out;omega)⟩
   obtain⟨gs,cs,cus,ev,-⟩:=S5.rst.2.resolve_left (λh=>by have:=fd.out;omega);rw[<-fd.out] at ev;cases ev
   have dj:O.cell? (Q gs j U)=T (Y y):=vM S5.rst hy;have hjm:(j:Int)<(ms:Int):=by omega
   have MD:=ae (Ny j y hy);clear hy;have aq:=MD.out;go_wp2;exact⟨⟨j+1,by omega,by go_num⟩,by simp[intOf];omega⟩
  obtain rfl:j=ms:=by omega
 ·have hI60:¬ (60:Int)<=(j:Int):=by omega
  clear b5 b6 b7 b8 Nt Ni NF NQ;have A6:=ae ((q9 O).alloc ly (N #[Y nm] 9));have P:=ae (S5.aa A6 ly);have RS:=ae (by have h:=P.rst;rw[<-fd.out] at h;exact h);have Mf:w0.heap.size<=(A O (N #[Y nm] 9)).heap.size:=P.lt;obtain⟨q0,aa,ca,q1,-⟩:=(KU.aa P.ao ly).2 tg sm;obtain⟨-,aa',ca',MQ,KX⟩:=KU.2 tg sm;have KP:=KU.1;have e1:=(P.ao.cell (p:=(Q tb (Mz+tg*2+1) U)) KP).trans MQ;rw[q1] at e1;simp only[OJ,N1,TF] at e1;obtain⟨rfl,rfl⟩:=e1;have Nq:=ae KX;have Q1:=ae q1;clear q0 q1 MQ KX;have Lu:Hid ((A O (N #[Y nm] 9)).heap[w.heap.size]?=T (N #[J I 0,Y ⟨#[]⟩,Z U 0 0] 39 (0,0))):=(A6.block _ (ai ro)).trans ro;have HG:Hid (∀H:M,(A O (N #[Y nm] 9)).grownBy H (Value.slice MC j MN).ownBlock->H.heap[hb]?=(A O (N #[Y nm] 9)).heap[hb]?/\H.heap[tb]?=(A O (N #[Y nm] 9)).heap[tb]?):=λH hg=>by
   refine⟨hg.block hb (ai P.G) λe=>?_,hg.block tb (lj KP Mf) λe=>?_⟩;{obtain⟨_,_,Lj,hc⟩:=aj RS hb e.symm;exact absurd (ar P.G hc) (by decide)};{have:=(aj RS tb e.symm).1;omega}
  have Nj:w0.heap.size<=hb:=S5.hbB;have htbh:¬ tb=hb:=by omega
  have htbh':¬ hb=tb:=by omega
  have htI:(tg:Int)<(S.n1:Int):=by omega
  go_wp2_with (first
   |(at_builtin;refine bC _ rfl (.tmp 166) (.tmp 168) 30 rfl w0.heap.size 9 i1 (Y ⟨#[]⟩) 1 16 IB Mc LX Lt Lr rfl (by decide) (Z MC j MN) j (b9 making) (by simp[Act.eval]) RS.out (Q O.heap.size 0 U) 1 1 [Y nm] (by simp[Act.eval]) rfl (pA O _ _) (by simp[Value.oneCell']) (by unfold maxLen;omega) (by omega) Mf ?_;intro v7 w7 F o la;have O7:=ae F;have G7:=ae o;have MA:=ae la;have Ly:=ae (HG w7 o);obtain⟨g7,c7,cu7,rfl,Nm⟩:=F.2.resolve_left (λh=>by omega);clear Nm F o la;obtain⟨Mr,-,f1,-,-,f4,-,-,-,-,ff⟩:=(ShBox.ab P.G Ly.1).K;have NK:=ff 4;rw[Nr.out] at f1;have f9:=(cq (a:=(Q tb (Mz+tg*2+1) U)) Ly.2).trans Q1.out;have NL:tb<w7.heap.size:=(lj (lj KP Nj) (P0 Mr));clear ff)
   |fail)
  have SP:=ae (P.push (nm:=nm) (w':=w7) (v:=Z (T (Q g7 0 U)) (j+1) c7) (by rw[<-fd.out];exact G7) (by rw[<-fd.out];exact O7) (by rw[<-fd.out];exact MA));have S7:=ae SP.1;have K7:Hid (KS w0.heap.size XN w (w7.setCell (Q hb 4 U) (Z (T (Q g7 0 U)) (j+1) c7))):=(K5.to (KS.u (X:=XN) A6 ly S5.lt)).to SP.2;have ZQ:Hid ((w7.setCell (Q hb 4 U) (Z (T (Q g7 0 U)) (j+1) c7)).heap[w.heap.size]?=T (N #[J I 0,Y ⟨#[]⟩,Z U 0 0] 39 (0,0))):=(SP.2.ab _ _ _ _ Lu (by decide) (by decide) (by decide) λh=>h).trans Lu;clear SP f1 f4 f9 NK Mr NL O7 G7 MA Ly HG RS P A6 Lu Q1 S5 K5 ro b4 Mq G;generalize World.setCell w7 _ _=W7 at S7 K7 ZQ ⊢;refine(LZ W7 _ _ _ aa ca S7 Nq).mono ?_;clear LZ;rintro e w8 JT;rcases R with ⟨E,x⟩|c|d
  ·obtain⟨L1,md1,NS,st1,gx,cx,rfl,KH,At,Li,Na,LJ,n9⟩:=JT;obtain⟨MV,Mi⟩:=ML.out E x rfl;clear ML;obtain⟨f,DH⟩:∃f,f=x.1.E:=⟨_,rfl⟩
   obtain⟨rt,Mg⟩:∃rt,rt=x.1.B:=⟨_,rfl⟩
   obtain⟨ls,Lb⟩:∃ls,ls=x.2:=⟨_,rfl⟩
   obtain⟨ln,Ld⟩:∃ln,ln=ls.length:=⟨_,rfl⟩
   have Ln:ny nm tg (.inl (E,x))=.inl ((E++[⟨nm,3,f,rt,tg,ls⟩]),⟨nm,3,f,rt,tg,ls⟩):=by rw[DH,Mg,Lb];rfl
   have Nf:=ae Ln;rw[<-Lb,<-Ld] at Li;rw[<-DH,<-Mg,<-Lb,<-Ld];clear Ln DH Mg Lb;have Nb:=ae Ld;clear Ld;obtain⟨m1,DS,DQ⟩:=LJ.nam n (gB nm) dg;replace DQ:m1.e=nm:=DQ;have NG:Hid (m1.done=ZA):=by
    obtain⟨m2,Lx,e2,e3⟩:=At.mkg nm (Q2 _ (nD.2 rfl));obtain⟨i2,Lz⟩:=Q9 Lx;have e4:=yC At.nod Lz DS (e2.trans DQ.symm);rw[e4,DS] at Lz;cases Lz
    exact e3
   have dg:=ae DS;obtain⟨ZO,hN⟩:∃ZO,ZO=L1.length:=⟨_,rfl⟩
   have bt:L1.length=ZO:=hN.symm;have hnN:n<ZO:=by rw[hN];exact(n8.1 DS).1
   obtain⟨g,Kv,cum,rfl,-⟩:=KH.W.2.resolve_left (λh=>by omega);obtain⟨gp,ZM,cup,rfl,MO⟩:=KH.rst.2.resolve_left (λh=>by rw[cM,DW] at h;omega);have hcp:j+1<=ZM:=by have:=MO.2.2.1;rw[cM,DW,<-fd.out] at this;exact this
   rw[bt,cM,DW,<-fd.out] at KH;have KW:=ae (K7.to n9);have B:Hid (w8.heap[w.heap.size]?=T (N #[J I 0,Y ⟨#[]⟩,Z U 0 0] 39 (0,0))):=(n9.ab _ _ _ _ ZQ (by decide) (by decide) (by decide) λh=>h).trans ZQ;have LV:w.heap.size<=W7.heap.size:=K7.aa.size;have X8:=ae (((LExt.add w.heap.size L (m:=gB nm) rfl).trans LJ LV));have NW:Hid (w.heap.size<=gx):=p7 LV (aj Li gx rfl).1;have Ns:=ae (aB Li (p7 D LV));have MU:=ae At;have hw8:w.heap.size<=w8.heap.size:=KW.aa.size;have Ml:=ae KH;have LP:=ae DQ;have MY:=ae Mi;clear KH At Li Na LJ n9 DQ DS Mi MO S7 K7 ZQ hN;have ZN:=ae ((q9 w8).alloc ly (N #[J I f,Y rt,Z U 0 0] 39));have ZK:Hid ((A w8 (N #[J I f,Y rt,Z U 0 0] 39)).heap[w8.heap.size]?=T (N #[J I f,Y rt,Z U 0 0] 39 (0,0))):=nL _ _;have Lg:=ae (Ml.aa ZN ly);have K9:=ae (KS.u (X:=XN) ZN ly Ml.lt);have Lf:Hid ((A w8 (N #[J I f,Y rt,Z U 0 0] 39)).heap[w.heap.size]?=T (N #[J I 0,Y ⟨#[]⟩,Z U 0 0] 39 (0,0))):=(ZN.block _ (ai B)).trans B;go_upto_region 30 with fail;generalize World.alloc w8 _=W9 at ZN ZK Lg K9 Lf ⊢;obtain⟨s,KC⟩:∃s,s=w8.heap.size:=⟨_,rfl⟩
   rw[<-KC] at ZK ⊢;have MX:w.heap.size<=s:=by omega
   clear KC ZN Ml B;obtain⟨G,-,-,-,-,b4,-,-,-,b8,bf⟩:=Lg.G.K;have Mq:=bf 4;clear bf;go_upto_region 32 with fail;have NI:IntKind.i64.wrap (j:Int)=(j:Int):=Ka (by omega) (by omega);have Nv:(0:Int)<=(j:Int):=by omega
   have Nn:(j:Int)<=(ZM:Int):=by omega
   refine aD (λV=>V.cell? (Q hb 4 U)=T (Z (T (Q gp 0 U)) (j+1) ZM)) 14 (by kernel_rfl) ?_;have HS:Hid (W9.drew.cell? (Q hb 4 U)=T (Z (T (Q gp 0 U)) (j+1) ZM)):=b4;iterate 10
    refine aI 0 (v:=?_) rfl rfl (by kernel_rfl) (λ_ _ _ h=>h) rfl ?_ HS ?_;rotate_left
    ·(intro wz s0;go_simp)
     (try with_reducible rfl)
    (try simp only[Act.put,nzL])
   refine kv (i:=10) (v:=J I (j:Int)) rfl (by kernel_rfl) (by kernel_rfl) (by kernel_rfl) (by kernel_rfl) (λ_ _ _ h=>h) rfl ?_ HS ?_;{intro wz s0;go_simp}
   (try simp only[Act.put,nzL])
   refine kv (i:=11) (v:=Z (T (Q gp 0 U)) j ZM) rfl (by kernel_rfl) (by kernel_rfl) (by kernel_rfl) (by kernel_rfl) (λ_ _ _ h=>h) rfl ?_ HS ?_;{intro wz s0;go_simp}
   (try simp only[Act.put,nzL])
   iterate 2
    refine cD 12 rfl rfl (by kernel_rfl) λK hK=>?_;go_simp;refine hK _ _ (λ_=>HS) ?_;clear hK K
    (try simp only[Act.put,nzL])
   have PP:Hid (SI w0 hb (Z a0 S.n0 c0) (Z a1 S.n1 c1) (W9.setCell (Q hb 4 U) (Z (T (Q gp 0 U)) j ZM)) making E L1 (Z (T (Q g 0 U)) ZO Kv) NS (Z (T (Q gp 0 U)) j ZM)/\KS w0.heap.size XN W9 (W9.setCell (Q hb 4 U) (Z (T (Q gp 0 U)) j ZM))):=by have h:=Lg.out;rw[fd.out] at h ⊢;exact h.pop
   refine ah (i:=14) rfl (by kernel_rfl) λK hK=>?_;go_simp;refine hK _ _ (λh=>absurd rfl h) ?_;clear hK K HS b4 Mq b8
   (try simp only[Act.put])
   refine aX (by kernel_rfl) ?_ _;have D6:Hid (Below (W9.setCell (Q hb 4 U) (Z (T (Q gp 0 U)) j ZM)).heap.size (W9.setCell (Q hb 4 U) (Z (T (Q gp 0 U)) j ZM)) (W9.setCell (Q hb 4 U) (Z (T (Q gp 0 U)) j ZM)).drew):=br.drew;have P:=ae (PP.1.aa D6 ly);have K6:=ae ((K9.to PP.2).to (KS.u (X:=XN) D6 ly PP.1.lt));have th:Hid ((W9.setCell (Q hb 4 U) (Z (T (Q gp 0 U)) j ZM)).drew.heap[w.heap.size]?=T (N #[J I 0,Y ⟨#[]⟩,Z U 0 0] 39 (0,0))):=(PP.2.ab _ _ _ _ Lf (by decide) (by decide) (by decide) λh=>h).trans Lf;have Mj:Hid ((W9.setCell (Q hb 4 U) (Z (T (Q gp 0 U)) j ZM)).drew.heap[s]?=T (N #[J I f,Y rt,Z U 0 0] 39 (0,0))):=(PP.2.ab _ _ _ _ ZK (by decide) (by decide) (by decide) λh=>h).trans ZK;clear PP D6 Lg K9 Lf ZK NI Nv Nn G;generalize World.drew (World.setCell W9 _ _)=ZR at P K6 th Mj ⊢;have ZK:=ae Mj.out;clear Mj;go_upto_region 33 with fail;obtain⟨G,-,-,b2,-⟩:=P.G.K;obtain⟨rl,r0,r1,r2,-⟩:=bv ZK;obtain⟨MZ,M5,Lj,Bk⟩:=aj P.W g rfl;have Fd:=ae Bk;have R6:Hid (ZR.ownsRow w0.heap.size 198 6 (Z (T (Q g 0 U)) ZO Kv) ZO (L1.flatMap smV)):=by have h:=P.W;rw[bt] at h;exact h
   have q1:ZR.cell? (Q g (n*6+1) U)=T (J I m1.E):=cE (by rw[bt];exact R6) dg 1 (by omega) rfl;have q2:ZR.cell? (Q g (n*6+1+1) U)=T (Y m1.B):=cE (by rw[bt];exact R6) dg 2 (by omega) rfl;have q3:ZR.cell? (Q g (n*6+1+2) U)=T (Z U 0 0):=cE (by rw[bt];exact R6) dg 3 (by omega) rfl;have qf:∀j,ZR.frozen? (Q g j U)=ZA:=λj=>by simp[World.frozen?,Bk]
   have Mb:=qf (n*6+1);have Lp:=qf (n*6+1+1);have Ma:=qf (n*6+1+2);clear qf Bk;have NT:(n:Int)<(ZO:Int):=by omega
   have ld:g≠hb:=by intro e;have h:=Fd.out;rw[e] at h;exact absurd (ar h P.G) (by decide)
   have r:g≠s:=by intro e;have h:=Fd.out;rw[e] at h;exact absurd (ar h ZK) (by decide)
   refine wp_region_held_drew (S:=λV=>V.cell? (Q hb 2 U)=T (Z (T (Q g 0 U)) ZO Kv)/\V.cell? (Q s 0 U)=T (J I f)/\V.cell? (Q s 1 U)=T (Y rt)/\V.cell? (Q s 2 U)=T (Z U 0 0)) (by kernel_rfl) ⟨b2,r0,r1,r2⟩ λhS=>?_;have HS:=ae hS;clear hS;iterate 8
    first|refine bI 0 (v:=?_) rfl rfl (by kernel_rfl) (λ_ _ _ h=>h) rfl ?_ HS ?_|refine bI 4 (v:=?_) rfl rfl (by kernel_rfl) (λ_ _ _ h=>h) rfl ?_ HS ?_
    rotate_left
    ·(rintro wz ⟨s0,s1,s2,s3⟩;go_simp)
     (try with_reducible rfl)
    (try simp only[Act.put,nzL])
   have TL:=ae (P.told bt dg NG f rt);have Kx:Hid ((((ZR.setCell (Q g (n*6+1) U) (J I f)).setCell (Q g (n*6+1+1) U) (Y rt)).setCell (Q g (n*6+1+2) U) (Z U 0 0)).drew.cell? (Q hb 2 U)=T (Z (T (Q g 0 U)) ZO Kv)/\(((ZR.setCell (Q g (n*6+1) U) (J I f)).setCell (Q g (n*6+1+1) U) (Y rt)).setCell (Q g (n*6+1+2) U) (Z U 0 0)).drew.cell? (Q s 0 U)=T (J I f)/\(((ZR.setCell (Q g (n*6+1) U) (J I f)).setCell (Q g (n*6+1+1) U) (Y rt)).setCell (Q g (n*6+1+2) U) (Z U 0 0)).drew.cell? (Q s 1 U)=T (Y rt)/\(((ZR.setCell (Q g (n*6+1) U) (J I f)).setCell (Q g (n*6+1+1) U) (Y rt)).setCell (Q g (n*6+1+2) U) (Z U 0 0)).drew.cell? (Q s 2 U)=T (Z U 0 0)) :=
    ⟨(cell_far _ _ _ _ ld).trans ((cell_far _ _ _ _ ld).trans ((cell_far _ _ _ _ ld).trans b2)),(cell_far _ _ _ _ r).trans ((cell_far _ _ _ _ r).trans ((cell_far _ _ _ _ r).trans r0)),(cell_far _ _ _ _ r).trans ((cell_far _ _ _ _ r).trans ((cell_far _ _ _ _ r).trans r1)),(cell_far _ _ _ _ r).trans ((cell_far _ _ _ _ r).trans ((cell_far _ _ _ _ r).trans r2))⟩
   refine aS (i:=8) rfl (by kernel_rfl) λK hK=>?_;go_simp;refine hK _ _ Kx ?_;clear hK K HS q1 q2 q3 Mb Lp Ma b2 r0 r1 r2 rl
   (try simp only[Act.put])
   refine wpAnyH_done (by kernel_rfl) ?_ _;have D7:Hid (Below (((ZR.setCell (Q g (n*6+1) U) (J I f)).setCell (Q g (n*6+1+1) U) (Y rt)).setCell (Q g (n*6+1+2) U) (Z U 0 0)).heap.size (((ZR.setCell (Q g (n*6+1) U) (J I f)).setCell (Q g (n*6+1+1) U) (Y rt)).setCell (Q g (n*6+1+2) U) (Z U 0 0)) (((ZR.setCell (Q g (n*6+1) U) (J I f)).setCell (Q g (n*6+1+1) U) (Y rt)).setCell (Q g (n*6+1+2) U) (Z U 0 0)).drew):=br.drew;have S7:=ae (TL.1.aa D7 ly);have K7:=ae (K6.to (TL.2.1.to (KS.u (X:=XN) D7 ly TL.1.lt)));have Kz:=TL.2.2.1;have KB:=TL.2.2.2;have ZQ:Hid ((((ZR.setCell (Q g (n*6+1) U) (J I f)).setCell (Q g (n*6+1+1) U) (Y rt)).setCell (Q g (n*6+1+2) U) (Z U 0 0)).drew.heap[w.heap.size]?=T (N #[J I 0,Y ⟨#[]⟩,Z U 0 0] 39 (0,0))):=by have ZL:=(TL.2.1.ab _ _ _ _ th (by decide) (by decide) (by decide) λh=>h).trans th;exact ZL
   have mv:Hid ((((ZR.setCell (Q g (n*6+1) U) (J I f)).setCell (Q g (n*6+1+1) U) (Y rt)).setCell (Q g (n*6+1+2) U) (Z U 0 0)).drew.heap[s]?=T (N #[J I f,Y rt,Z U 0 0] 39 (0,0))):=by have ZL:=(TL.2.1.ab _ _ _ _ ZK (by decide) (by decide) (by decide) λh=>h).trans ZK;exact ZL
   have Fn:=ae Kz;have Fm:=ae KB;clear TL Kx Kz KB th ZK K6 P R6 Fd D7;generalize World.drew (World.setCell (World.setCell (World.setCell ZR _ _) _ _) _ _)=W7 at S7 K7 ZQ mv ⊢;have OS:=ae Ns.out;obtain⟨G,-,-,b2,-⟩:=S7.G.K;obtain⟨KZ,Lc,MH,qr⟩:=aj S7.W g rfl;have q4:W7.cell? (Q g (n*6+4) U)=T m1.sv:=cE (by have h:=S7.W;rw[Fm.out] at h ⊢;exact h) Fn 4 (by omega) rfl;have ND:W7.frozen? (Q g (n*6+4) U)=ZA:=by simp[World.frozen?,qr]
   have ZI:=ae (S7.upd' Fm Fn (j:=4) (by omega) (u:=Z (T (Q gx 0 U)) ln cx) (m':=⟨m1.e,f,rt,ls,Z (T (Q gx 0 U)) ln cx,ZA⟩) rfl (λh=>by cases h));have Kt:Hid ((W7.setCell (Q g (n*6+4) U) (Z (T (Q gx 0 U)) ln cx)).heap[w.heap.size]?=T (N #[J I 0,Y ⟨#[]⟩,Z U 0 0] 39 (0,0))):=(ZI.2.1.ab _ _ _ _ ZQ (by decide) (by decide) (by decide) λh=>h).trans ZQ;have Id:Hid ((W7.setCell (Q g (n*6+4) U) (Z (T (Q gx 0 U)) ln cx)).heap[s]?=T (N #[J I f,Y rt,Z U 0 0] 39 (0,0))):=(ZI.2.1.ab _ _ _ _ mv (by decide) (by decide) (by decide) λh=>h).trans mv;have Fk:=ae ZI.1;have Le:=ae (K7.to ZI.2.1);have Mn:=ae ZI.2.2.1;have Lv:=ae ZI.2.2.2;clear qr;go_upto_region 35 with fail;clear b2 q4 ND ZI S7 K7 ZQ mv Fn Fm;generalize World.setCell W7 _ _=Ky at Fk Le Kt Id ⊢;have NH:=ae (JD OS Le);obtain⟨G,-,-,b2,-⟩:=Fk.G.K;obtain⟨KZ,Lc,MH,qr⟩:=aj Fk.W g rfl;have q5:Ky.cell? (Q g (n*6+5) U)=T (ZD ZA):=cE (by have h:=Fk.W;rw[Lv.out] at h ⊢;exact h) Mn 5 (by omega) rfl;have Ll:Ky.frozen? (Q g (n*6+5) U)=ZA:=by simp[World.frozen?,qr]
   have ZI:=ae (Fk.upd' Lv Mn (j:=5) (by omega) (u:=ZD ZG) (m':=⟨m1.e,f,rt,ls,Z (T (Q gx 0 U)) ln cx,ZG⟩) rfl (λ_=>(by rw[<-Nb.out];exact NH)));have B:Hid ((Ky.setCell (Q g (n*6+5) U) (ZD ZG)).heap[w.heap.size]?=T (N #[J I 0,Y ⟨#[]⟩,Z U 0 0] 39 (0,0))):=(ZI.2.1.ab _ _ _ _ Kt (by decide) (by decide) (by decide) λh=>h).trans Kt;have ZJ:Hid ((Ky.setCell (Q g (n*6+5) U) (ZD ZG)).heap[s]?=T (N #[J I f,Y rt,Z U 0 0] 39 (0,0))):=(ZI.2.1.ab _ _ _ _ Id (by decide) (by decide) (by decide) λh=>h).trans Id;have S8:=ae ZI.1;have K8:=ae (Le.to ZI.2.1);clear qr;go_upto_region 36 with fail;clear b2 q5 Ll ZI Fk Le Kt Id;generalize World.setCell Ky _ _=ZP at S8 K8 B ZJ ⊢;obtain⟨ao,co,rfl⟩:=j6 S8.ror;obtain⟨q,hq⟩:∃q,q=E.length:=⟨_,rfl⟩
   have HQ:=ae hq;rw[<-hq] at MV;clear hq;obtain⟨G,-,-,-,b3,-⟩:=S8.G.K;rw[<-HQ.out] at b3;have ZN:=ae ((q9 ZP).alloc ly (N #[Y nm] 9));have S9:=ae (S8.aa ZN ly);have RO:Hid ((A ZP (N #[Y nm] 9)).ownsRow w0.heap.size 9 1 (Z ao q co) q (b9 (E.map (·.e)))):=by have h:=S9.ror;rw[<-HQ.out] at h;exact h
   have KT:w0.heap.size<=(A ZP (N #[Y nm] 9)).heap.size:=S9.lt;have HG:Hid (∀H:M,(A ZP (N #[Y nm] 9)).grownBy H (Value.slice ao q co).ownBlock->H.heap[hb]?=(A ZP (N #[Y nm] 9)).heap[hb]?/\H.heap[w.heap.size]?=(A ZP (N #[Y nm] 9)).heap[w.heap.size]?/\H.heap[s]?=(A ZP (N #[Y nm] 9)).heap[s]?):=λH hg=>by
    have aq:∀(i:Nat) (cs:Array ZC) (t:ZH) (fz:Nat × Nat),(A ZP (N #[Y nm] 9)).heap[i]?=T (Obj.cells cs t fz)->t≠9->H.heap[i]?=(A ZP (N #[Y nm] 9)).heap[i]?:=λi cs t fz hi ht=>hg.block i (ai hi) λe=>by obtain⟨_,_,Lj,hc⟩:=aj RO i e.symm;exact ht (ar hi hc)
    exact⟨aq _ _ _ _ S9.G (by decide),aq _ _ _ _ ((ZN.block _ (ai B)).trans B) (by decide),aq _ _ _ _ ((ZN.block _ (ai ZJ)).trans ZJ) (by decide)⟩
   have Kw:Hid ((A ZP (N #[Y nm] 9)).heap[w.heap.size]?=T (N #[J I 0,Y ⟨#[]⟩,Z U 0 0] 39 (0,0))):=(ZN.block _ (ai B)).trans B;have Mm:Hid ((A ZP (N #[Y nm] 9)).heap[s]?=T (N #[J I f,Y rt,Z U 0 0] 39 (0,0))):=(ZN.block _ (ai ZJ)).trans ZJ;have hbw:¬ hb=w.heap.size:=λe=>by have h:=S8.G;unfold ShBox at h;rw[e] at h;exact absurd (ar h B) (by decide)
   have DE:¬ w.heap.size=hb:=λe=>hbw e.symm;have Mh:¬ hb=s:=λe=>by have h:=S8.G;unfold ShBox at h;rw[e] at h;exact absurd (ar h ZJ) (by decide)
   have Nd:¬ s=hb:=λe=>Mh e.symm
   go_wp2_with (first
    |(at_builtin;refine bC _ rfl (.tmp 235) (.tmp 237) 30 rfl w0.heap.size 9 i1 (Y ⟨#[]⟩) 1 16 IB Mc LX Lt Lr rfl (by decide) (Z ao q co) q (b9 (E.map (·.e))) (by simp[Act.eval]) RO.out (Q ZP.heap.size 0 U) 1 1 [Y nm] (by simp[Act.eval]) rfl (pA ZP _ _) (by simp[Value.oneCell']) (by unfold maxLen;omega) (by omega) KT ?_;intro v9 w9 F o la;have O9:=ae F;have G9:=ae o;have Lm:=ae la;have ph:=ae (HG w9 o);obtain⟨g9,c9,NR,rfl,Me⟩:=F.2.resolve_left (λh=>by omega);clear Me F o la;obtain⟨Nc,-,-,-,f3,-,-,-,-,-,ff⟩:=(ShBox.ab S9.G ph.1).K;have NV:=ff 3;obtain⟨rl,r0,r1,r2,rf⟩:=bv (ph.2.1.trans Kw);have Lw:=rf 0;have Mk:=rf 1;have LU:=rf 2;obtain⟨pl,p0,p1,p2,pf⟩:=bv (ph.2.2.trans Mm);clear ff rf pf)
    |fail)
   have KJ:=ae (S9.ord (x:=⟨nm,3,f,rt,tg,ls⟩) (w':=w9) (v:=Z (T (Q g9 0 U)) (q+1) c9) (by rw[<-HQ.out];exact G9) (by rw[<-HQ.out];exact O9) (by rw[<-HQ.out];exact Lm));refine bp (v:=.agg #[J I f,Y rt,Z U 0 0]) (by simp[results,SS,go_sem,r0,r1,r2]) rfl ?_;have KF:=(qh w9 (Q hb 3 U) (Z (T (Q g9 0 U)) (q+1) c9) w.heap.size DE).trans (ph.2.1.trans Kw);rw[Nf.out];refine⟨L1.set n ⟨m1.e,f,rt,ls,Z (T (Q gx 0 U)) ln cx,ZG⟩,Z (T (Q g 0 U)) ZO Kv,Z (T (Q g9 0 U)) (q+1) c9,Z (T (Q gp 0 U)) j ZM,rfl,?_,yD MU dg LP LP rfl rfl rfl rfl rfl MY HI,X8.set dg rfl (λk e=>by cases e;exact NW),?_⟩;{have x0:=KJ.1;rw[VG,VG] at x0;replace x0:=x0.X KF ⟨by decide,by decide,by decide,by decide⟩ D 0 (J I f);have y0:=ay KF (j:=0) (J I f);have x1:=x0.X y0 ⟨by decide,by decide,by decide,by decide⟩ D 1 (Y rt);exact x1.X (ay y0 (j:=1) (Y rt)) ⟨by decide,by decide,by decide,by decide⟩ D 2 (Z U 0 0)};{have k0:=((KW.to K8).to (KS.u (X:=XN) ZN ly S8.lt)).to KJ.2;exact((k0.fresh ly D 0 _).fresh ly D 1 _).fresh ly D 2 _}
  focus
   obtain⟨a,k,sv,rfl,⟨s0,s1,NP,Nw,Nk,Hx,Ku⟩,n9⟩:=JT
  rotate_left;focus
   obtain⟨sv,rfl,⟨s0,s1,NP,Nw,Nk,Hx,Ku⟩,n9⟩:=JT
  all_goals
   unfold jr;first|unfold jA|unfold jB
   dsimp only;go_upto_region 30 with fail;generalize hW:World.alloc w8 _=W9;obtain⟨ZN,-,-⟩:=nb1 hW;have K8:=ae ((K7.to n9).to (KS.u (X:=XN) ZN ly (p7 D (K7.to n9).aa.size)));have LG:=ae (ShBox.ab Hx (ZN.block _ (ai Hx)));have MG:=ae (own_below Ku ZN ly);have B:Hid (W9.heap[w.heap.size]?=T (N #[J I 0,Y ⟨#[]⟩,Z U 0 0] 39 (0,0))):=by have ZL:=(n9.ab _ _ _ _ ZQ (by decide) (by decide) (by decide) λh=>h).trans ZQ;exact(ZN.block _ (ai ZL)).trans ZL
   clear n9 Hx Ku ZN hW;obtain⟨G,-,-,-,-,-,b5,b6,b7,b8,-⟩:=LG.K;have hbw:¬ hb=w.heap.size:=λe=>by have h:=LG.out;unfold ShBox at h;rw[e] at h;exact absurd (ar h B) (by decide)
   have DE:¬ w.heap.size=hb:=λe=>hbw e.symm;obtain⟨rl,r0,r1,r2,rf⟩:=bv B;have Lw:=rf 0;have Mk:=rf 1;have LU:=rf 2;clear rf;first|simp only[jA] at b5 b6 b7|simp only[jB] at b5 b6 b7
   go_wp2_with fail;have Mp:=JC MG.out B.out (by decide);first|refine bp (v:=.agg #[J I 6,Y ⟨#[]⟩,Z a c.length k]) (by simp[results,SS,go_sem,r0,r1,r2]) rfl ⟨a,k,rfl,?_⟩|refine bp (v:=.agg #[J I 7,Y d,Z U 0 0]) (by simp[results,SS,go_sem,r0,r1,r2]) rfl ⟨rfl,?_⟩
   refine⟨⟨_,_,_,_,_,(qh _ _ _ _ hbw).trans ((qh _ _ _ _ hbw).trans ((qh _ _ _ _ hbw).trans LG)),?_⟩,?_⟩
   ·exact aA (aA (aA MG Mp _ _) Mp _ _) Mp _ _
   ·exact((K8.fresh ly D 0 _).fresh ly D 1 _).fresh ly D 2 _
 ·have Mt:j=60:=KM;subst Mt;have hbw:¬ hb=w.heap.size:=λe=>by have h:=S5.G;unfold ShBox at h;rw[e] at h;exact absurd (ar h ro) (by decide)
  have DE:¬ w.heap.size=hb:=λe=>hbw e.symm;obtain⟨rl,r0,r1,r2,rf⟩:=bv ro;have Lw:=rf 0;have Mk:=rf 1;have LU:=rf 2;clear rf;go_wp2_with fail;refine bp (v:=.agg #[J I 7,Y nm,Z U 0 0]) (by simp[results,SS,go_sem,r0,r1,r2]) rfl ?_;have Mx:=ay S5.G (j:=8) (ZD ZG);have Mv:=ay Mx (j:=5) (J I 7);have MF:=ay Mv (j:=6) (Y nm);have NM:=ay MF (j:=7) (Z U 0 0);have KV:w0.heap.size<=hb:=S5.hbB;have k8:=(((K5.to (KS.setCell (X:=XN) _ KV (.inr λcs t fz hc=>.inr (.inr (ar hc S5.G))) (ZD ZG) (j:=8))).to (KS.setCell (X:=XN) _ KV (.inr λcs t fz hc=>.inr (.inr (ar hc Mx))) (J I 7) (j:=5))).to (KS.setCell (X:=XN) _ KV (.inr λcs t fz hc=>.inr (.inr (ar hc Mv))) (Y nm) (j:=6))).to (KS.setCell (X:=XN) _ KV (.inr λcs t fz hc=>.inr (.inr (ar hc MF))) (Z U 0 0) (j:=7));refine⟨rfl,⟨_,_,_,_,_,(qh _ _ _ _ hbw).trans ((qh _ _ _ _ hbw).trans ((qh _ _ _ _ hbw).trans NM)),⟨rfl,.inl ⟨rfl,rfl⟩⟩⟩,?_⟩;exact((k8.fresh ly D 0 _).fresh ly D 1 _).fresh ly D 2 _
end
section
variable {w0:M}{S:Spc}{a0 a1:Option Addr}{c0 c1 hb:Nat}
theorem vN{making:List ByteArray}{made:List Ent}(h:fG L making made)(b:∀m∈L,m.e≠nm)(l:cL made nm=U)(h1:atL making nm=U)(c:m'.e=nm)(o:m'.done=ZG)(g:x.e=nm)(r:m'.E=(dQ x).E)(p:m'.B=(dQ x).B)(q:m'.c=x.looks)(i:m'.sv=Z U 0 0)(n:Nat):fG ((L++[gB nm]).set L.length m') making (made++[x])/\LExt n L ((L++[gB nm]).set L.length m'):=by
 have f:(L++[gB nm])[L.length]?=T (gB nm):=by rw[IX ly,Nat.sub_self];rfl
 refine⟨yD (sW h b (m:=gB nm) rfl rfl) f rfl c g o r p q (ij l) h1,(LExt.add n L (m:=gB nm) rfl).set f c λj e=>?_⟩;rw[i] at e;cases e
theorem FU (C:pt w0 S a0 a1):∀n,nE w0 S hb (Z a0 S.n0 c0) (Z a1 S.n1 c1) n:=by
 have u:∀n,(∀m,n=m+1->nE w0 S hb (Z a0 S.n0 c0) (Z a1 S.n1 c1) m)->nE w0 S hb (Z a0 S.n0 c0) (Z a1 S.n1 c1) n:=by
  intro n y making made L md or st w nm ZR h hrel H c q hn;have hmade:made.length<=50000:=by unfold fi at c;omega
  have b:L.length<=100000:=by have:=hrel.len;omega
  rw[Fj];unfold fV;cases h0:cL made nm with
  |some e =>obtain⟨k,m,f1,B,D,z,F⟩:=Iv hrel h0;refine(FP w nm h b k m f1 B D).mono ?_;rintro r w' ⟨rfl,g,j⟩;exact⟨L,md,or,st,by rw[z,F],g,hrel,LExt.refl _ _,j⟩
  |none =>
   cases h1:atL making nm with
   |some i =>
    obtain⟨k,m,f1,B,D,z⟩:=Iw hrel h1;have E:=q nm z;cases h2:atI (nm1 S.f1) S.n1 nm with
    |none=>rw[h2] at E;cases E
    |some tg=>exact xx C w nm h b (by omega) k m f1 B D tg i h2 h1
   |none =>
    obtain⟨p,s⟩:=Dj hrel h0 h1;dsimp only;unfold jY;cases h2:atI (nm0 S.f0) S.n0 nm with
    |some i =>refine(mE.1 C w nm h b (by omega) p (oJ C.ok h2) 0 (S.f0 i).B (.inr ⟨i,h2,rfl,rfl⟩) 1 (S.f0 i).B).mono ?_;rintro r w' ⟨o,f,rfl,g,j⟩;have l:=vN hrel s h0 h1 (m':=⟨nm,0,(S.f0 i).B,[],Z U 0 0,ZG⟩) (x:=⟨nm,1,0,(S.f0 i).B,0,[]⟩) rfl rfl rfl rfl rfl rfl rfl w.heap.size;exact⟨_,o,f,st,rfl,g,l.1,l.2,j⟩
    |none =>
     cases h3:atI (nm1 S.f1) S.n1 nm with
     |some t =>
      cases n with
      |zero=>exact mE.2 C w nm h b p h1 t h3 _ (.inl ⟨by omega,rfl⟩)
      |succ m=>exact mE.2 C w nm h b p h1 t h3 _ (.inr ⟨m,ZR,y m rfl,hrel,H,c,q,h0,rfl⟩)
     |none =>refine(mE.1 C w nm h b (by omega) p h3 4 nm (.inl ⟨h2,rfl,rfl⟩) 2 ⟨#[]⟩).mono ?_;rintro r w' ⟨o,f,rfl,g,j⟩;have l:=vN hrel s h0 h1 (m':=⟨nm,4,nm,[],Z U 0 0,ZG⟩) (x:=⟨nm,2,0,⟨#[]⟩,0,[]⟩) rfl rfl rfl rfl rfl rfl rfl w.heap.size;exact⟨_,o,f,st,rfl,g,l.1,l.2,j⟩
 intro n;induction n with
 |zero=>exact u 0 λm e=>by omega
 |succ n G=>exact u (n+1) λm e=>by cases e;exact G
end
