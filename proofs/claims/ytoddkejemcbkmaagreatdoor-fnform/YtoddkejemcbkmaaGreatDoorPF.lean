import Derived.Test.YtoddkejemcbkmaaGreatDoorPB
import Derived.WalkSmall
set_option maxRecDepth 1000000
set_option maxHeartbeats 16000000
set_option linter.unusedSimpArgs false
open Go renaming Addr.mk->Q,Value.slice->Z,Value.string->U,Value.int->J,Value.bool->ZD,Obj.cells->N,IntKind.i64->I,World->M,Value->ZC,TypeId->ZH,Ending.returned->ZF,World.alloc->A,Proofs.Tryz.prog->Pg
open Option renaming none->Y,some->T
open Bool renaming false->ZA,true->ZG
namespace Go.Proofs.YtoddkejemcbkmaaGreatDoor.Vp
open Tryz RowKit
variable {m c m':SM}{n g cap b j i size B ZN:Nat}{e:ZH}{x:Ent}{nm:ByteArray}{u:ZC}
theorem uR:∀(L:List SM) (k j:Nat) (m b:SM) (u:ZC),L[k]?=T m->j<6->smV b=(smV m).set j u->(L.flatMap smV).set (k*6+j) u=(L.set k b).flatMap smV
 |[],k,j,m,b,u,h,_,_=>by simp at h
 |a::L,0,j,m,b,u,h,hj,he=>by simp only[List.getElem?_cons_zero,MU] at h;subst h;simp only[J2,List.set_cons_zero,US,F6];rw[UF _ _ (by rw[nI];exact hj),he]
 |a::L,k+1,j,m,b,u,h,hj,he=>by simp only[TH] at h;simp only[J2,TC];rw[P9 _ _ (by rw[nI];omega),nI,show(k+1)*6+j - 6=k*6+j by omega,uR L k j m b u h hj he]
theorem zu{w:M}{f:List ZC}(h:w.ownsRow b e size (Z (T (Q g 0 Y)) n cap) n f)(u:ZC):(w.setCell (Q g j Y) u).ownsRow b e size (Z (T (Q g 0 Y)) n cap) n (f.set j u):=by
 refine⟨by rw[LN];exact h.1,?_⟩;rcases h.2 with ⟨c,h0⟩|⟨g',cap',i,c,hb,l,h1,h2,h3,h4⟩
 {simp at c};{simp only[ML,MU,Q0] at c;obtain⟨⟨rfl,-⟩,-,rfl⟩:=c;refine .inr ⟨g,cap,i.setIfInBounds j u,rfl,hb,ay l u,h1,h2,by simpa using h3,?_⟩;rw[PD,UA,h4]}
section
variable {w0 w w':M}{hb:Nat}{s0 s1 md or st:ZC}{making:List ByteArray}{made:List Ent}{L:List SM}
theorem SI.upd{k:Nat}(h:SI w0 hb s0 s1 w making made L (Z (T (Q g 0 Y)) L.length cap) or st)(G:L[k]?=T m)(F:j<6)(C:smV c=(smV m).set j u)(E:c.done=ZG->w.ownsRow w0.heap.size 181 3 c.sv c.c.length (eC c.c)):SI w0 hb s0 s1 (w.setCell (Q g (k*6+j) Y) u) making made (L.set k c) (Z (T (Q g 0 Y)) (L.set k c).length cap) or st/\KS w0.heap.size XN w (w.setCell (Q g (k*6+j) Y) u):=by
 obtain⟨i,hgl,cs,p⟩:=aj h.W g rfl
 have b:∀{size n:Nat} {o:ZH} {B:ZC} {r:List ZC},w.ownsRow w0.heap.size o size B n r->179≠o->(w.setCell (Q g (k*6+j) Y) u).ownsRow w0.heap.size o size B n r:=λZR z=>aB ZR (λe=>by
  obtain⟨_,_,q,f⟩:=aj ZR g e
  exact z (ar p f)) _ _
 have s:(L.set k c).length=L.length:=LN;refine⟨⟨h.ao.setCell i u,h.hbB,?_,?_,b h.ror (by decide),b h.rst (by decide),h.apart,λx l y=>?_⟩,KS.setCell w i (.inr λq t fz f=>.inr (.inl (ar f p))) u⟩
 ·rw[s]
  exact h.H.ab (qh _ _ _ _ λe=>by
   have D:hb=g:=e
   exact absurd (ar h.H (D ▸ p)) (by decide))
 {rw[s,<-uR L k j m c u G F C];exact zu h.W u};{rcases NG l with l|rfl;{exact b (h.c x l y) (by decide)};{exact b (E y) (by decide)}}
theorem SI.addL{v:ZC}(h:SI w0 hb s0 s1 w making made L md or st)(B:w.grownBy w' md.ownBlock)(F:w'.ownsRow w0.heap.size 179 6 v (L.length+1) (L.flatMap smV++smV m))(ZP:m.done=ZA):SI w0 hb s0 s1 (w'.setCell (Q hb 2 Y) v) making made (L++[m]) v or st/\KS w0.heap.size XN w (w'.setCell (Q hb 2 Y) v):=by
 have z:=aj h.W;have G:KS w0.heap.size XN w w':=KS.of_grown B h.lt λj K=>by obtain⟨h1,_,g,h2⟩:=z j K;exact⟨h1,.inr λg t fz l=>.inr (.inl (ar l h2))⟩
 have o:∀(i:Nat) (g:Array ZC) (t:ZH) (fz:Nat × Nat),w.heap[i]?=T (Obj.cells g t fz)->t≠179->w'.heap[i]?=w.heap[i]?:=λi g t fz hi ZO=>B.block i (ai hi) λe=>by obtain⟨_,_,y,h2⟩:=z i e.symm;exact ZO (ar hi h2)
 have b:ShBox w' hb s0 s1 md or st 0 ⟨#[]⟩ (Z Y 0 0) ZA:=h.H.ab (o _ _ _ _ h.H (by decide));have c:∀{size n:Nat} {s:ZH} {H:ZC} {E:List ZC},w.ownsRow w0.heap.size s size H n E->s≠179->132≠s->(w'.setCell (Q hb 2 Y) v).ownsRow w0.heap.size s size H n E:=λu C D=>by
  have h3:=du (w':=w') u λk f=>by obtain⟨_,_,g,l⟩:=aj u k f;exact o _ _ _ _ l C
  exact aB h3 (λe=>by
   obtain⟨_,_,y,q⟩:=aj h3 hb e
   exact D (ar b q)) _ _
 have ZR:(w'.setCell (Q hb 2 Y) v).ownsRow w0.heap.size 179 6 v (L.length+1) (L.flatMap smV++smV m):=aB F (λe=>by
  obtain⟨_,_,y,q⟩:=aj F hb e
  exact absurd (ar b q) (by decide)) _ _
 have f:KS w0.heap.size XN w' (w'.setCell (Q hb 2 Y) v):=KS.setCell w' h.hbB (.inr λg t fz l=>.inr (.inr (ar l b))) v;refine⟨⟨h.ao.trans (G.to f).aa,h.hbB,ay b v,(by rw[cM,DW,BM,List.flatMap_singleton];exact ZR),c h.ror (by decide) (by decide),c h.rst (by decide) (by decide),h.apart,λx r p=>?_⟩,G.to f⟩;rcases p8.1 r with r|r;{exact c (h.c x r p) (by decide) (by decide)};{rw[nL.1 r,ZP] at p;cases p}
theorem SI.ord{v:ZC}(h:SI w0 hb s0 s1 w making made L md or st)(y:w.grownBy w' or.ownBlock)(E:w'.ownsRow w0.heap.size 9 1 v (made.length+1) (bZ (made.map (·.e))++[U x.e]))(B:v.ownBlock=or.ownBlock∨v.ownBlock=T w.heap.size):SI w0 hb s0 s1 (w'.setCell (Q hb 3 Y) v) making (made++[x]) L md v st/\KS w0.heap.size XN w (w'.setCell (Q hb 3 Y) v):=by
 have u:=aj h.ror;have G:KS w0.heap.size XN w w':=KS.of_grown y h.lt λj ZQ=>by obtain⟨h1,_,g,h2⟩:=u j ZQ;exact⟨h1,.inr λg t fz l=>.inl (ar l h2)⟩
 have p:∀(i:Nat) (g:Array ZC) (t:ZH) (fz:Nat × Nat),w.heap[i]?=T (Obj.cells g t fz)->t≠9->w'.heap[i]?=w.heap[i]?:=λi g t fz hi ZO=>y.block i (ai hi) λe=>by obtain⟨_,_,m,h2⟩:=u i e.symm;exact ZO (ar hi h2)
 have b:ShBox w' hb s0 s1 md or st 0 ⟨#[]⟩ (Z Y 0 0) ZA:=h.H.ab (p _ _ _ _ h.H (by decide));have o:∀{size n:Nat} {r:ZH} {H:ZC} {C:List ZC},w.ownsRow w0.heap.size r size H n C->r≠9->132≠r->(w'.setCell (Q hb 3 Y) v).ownsRow w0.heap.size r size H n C:=λs D ZR=>by
  have h3:=du (w':=w') s λk c=>by obtain⟨_,_,g,l⟩:=aj s k c;exact p _ _ _ _ l D
  exact aB h3 (λe=>by
   obtain⟨_,_,m,f⟩:=aj h3 hb e
   exact ZR (ar b f)) _ _
 have z:(w'.setCell (Q hb 3 Y) v).ownsRow w0.heap.size 9 1 v (made.length+1) (bZ (made.map (·.e))++[U x.e]):=aB E (λe=>by
  obtain⟨_,_,m,f⟩:=aj E hb e
  exact absurd (ar b f) (by decide)) _ _
 have c:KS w0.heap.size XN w' (w'.setCell (Q hb 3 Y) v):=KS.setCell w' h.hbB (.inr λg t fz l=>.inr (.inr (ar l b))) v;refine⟨⟨h.ao.trans (G.to c).aa,h.hbB,ay b v,o h.W (by decide) (by decide),(by rw[cM,DW];simpa[bZ] using z),?_,λk q=>?_,λx K F=>o (h.c x K F) (by decide) (by decide)⟩,G.to c⟩
 ·have h3:w'.ownsRow w0.heap.size 9 1 st making.length (bZ making):=du h.rst λk c=>by
   obtain⟨_,ZP,g,l⟩:=aj h.rst k c;exact y.block k ZP λe=>h.apart k e.symm c
  exact aB h3 (λe=>by
   obtain⟨_,_,m,f⟩:=aj h3 hb e
   exact absurd (ar b f) (by decide)) _ _
 ·intro e;rcases B with a|a;{exact h.apart k (by rw[<-a];exact q) e}
  ·rw[a] at q;cases q
   have:=(aj h.rst _ e).2.1;omega
theorem SI.push{v:ZC}(h:SI w0 hb s0 s1 w making made L md or st)(y:w.grownBy w' st.ownBlock)(E:w'.ownsRow w0.heap.size 9 1 v (making.length+1) (bZ making++[U nm]))(B:v.ownBlock=st.ownBlock∨v.ownBlock=T w.heap.size):SI w0 hb s0 s1 (w'.setCell (Q hb 4 Y) v) (making++[nm]) made L md or v/\KS w0.heap.size XN w (w'.setCell (Q hb 4 Y) v):=by
 have u:=aj h.rst;have G:KS w0.heap.size XN w w':=KS.of_grown y h.lt λj ZQ=>by obtain⟨h1,_,g,h2⟩:=u j ZQ;exact⟨h1,.inr λg t fz l=>.inl (ar l h2)⟩
 have p:∀(i:Nat) (g:Array ZC) (t:ZH) (fz:Nat × Nat),w.heap[i]?=T (Obj.cells g t fz)->t≠9->w'.heap[i]?=w.heap[i]?:=λi g t fz hi ZO=>y.block i (ai hi) λe=>by obtain⟨_,_,m,h2⟩:=u i e.symm;exact ZO (ar hi h2)
 have b:ShBox w' hb s0 s1 md or st 0 ⟨#[]⟩ (Z Y 0 0) ZA:=h.H.ab (p _ _ _ _ h.H (by decide));have o:∀{size n:Nat} {q:ZH} {H:ZC} {C:List ZC},w.ownsRow w0.heap.size q size H n C->q≠9->132≠q->(w'.setCell (Q hb 4 Y) v).ownsRow w0.heap.size q size H n C:=λs D ZR=>by
  have h3:=du (w':=w') s λk c=>by obtain⟨_,_,g,l⟩:=aj s k c;exact p _ _ _ _ l D
  exact aB h3 (λe=>by
   obtain⟨_,_,m,f⟩:=aj h3 hb e
   exact ZR (ar b f)) _ _
 have z:(w'.setCell (Q hb 4 Y) v).ownsRow w0.heap.size 9 1 v (making.length+1) (bZ making++[U nm]):=aB E (λe=>by
  obtain⟨_,_,m,f⟩:=aj E hb e
  exact absurd (ar b f) (by decide)) _ _
 have c:KS w0.heap.size XN w' (w'.setCell (Q hb 4 Y) v):=KS.setCell w' h.hbB (.inr λg t fz l=>.inr (.inr (ar l b))) v;refine⟨⟨h.ao.trans (G.to c).aa,h.hbB,ay b v,o h.W (by decide) (by decide),?_,(by rw[cM,DW];simpa[bZ] using z),λk r=>?_,λx K F=>o (h.c x K F) (by decide) (by decide)⟩,G.to c⟩
 ·have h3:w'.ownsRow w0.heap.size 9 1 or made.length (bZ (made.map (·.e))):=du h.ror λk c=>by
   obtain⟨_,ZP,g,l⟩:=aj h.ror k c;exact y.block k ZP λe=>h.apart k c e.symm
  exact aB h3 (λe=>by
   obtain⟨_,_,m,f⟩:=aj h3 hb e
   exact absurd (ar b f) (by decide)) _ _
 ·intro e;rcases B with a|a;{exact h.apart k r (by rw[<-a];exact e)}
  ·rw[a] at e;cases e
   have:=(aj h.ror _ r).2.1;omega
theorem SI.pop (h:SI w0 hb s0 s1 w (making++[nm]) made L md or (Z (T (Q g 0 Y)) (making.length+1) cap)):SI w0 hb s0 s1 (w.setCell (Q hb 4 Y) (Z (T (Q g 0 Y)) making.length cap)) making made L md or (Z (T (Q g 0 Y)) making.length cap)/\KS w0.heap.size XN w (w.setCell (Q hb 4 Y) (Z (T (Q g 0 Y)) making.length cap)):=by
 have b:∀{size n:Nat} {i:ZH} {o:ZC} {m:List ZC},w.ownsRow w0.heap.size i size o n m->132≠i->(w.setCell (Q hb 4 Y) (Z (T (Q g 0 Y)) making.length cap)).ownsRow w0.heap.size i size o n m:=λc j=>aB c (λe=>by
  obtain⟨_,_,cs2,l⟩:=aj c hb e
  exact j (ar h.H l)) _ _
 have f:=h.rst;rw[cM,DW] at f;refine⟨⟨h.ao.setCell h.hbB _,h.hbB,ay h.H _,b h.W (by decide),b h.ror (by decide),b (ownsRow_pop (last:=[U nm]) (by simp[bZ]) (by simpa[bZ] using f)) (by decide),h.apart,λx p q=>b (h.c x p q) (by decide)⟩,KS.setCell w h.hbB (.inr λcs t fz r=>.inr (.inr (ar r h.H))) _⟩
end
theorem xM{L:List SM}(h:L.Pairwise λm b=>m.e≠b.e){b:SM}(hi:L[i]?=T m)(q:L[j]?=T b)(e:m.e=b.e):i=j:=by
 rw[NP] at h;obtain⟨l,g⟩:=p6.1 hi;obtain⟨c,f⟩:=p6.1 q;rcases Nat.lt_trichotomy i j with o|n|p;{exact absurd (by rw[g,f];exact e) (h i j l c o)};{exact n};{exact absurd (by rw[g,f];exact e.symm) (h j i c l p)}
theorem qW{L:List SM}(hn:L.Pairwise λm f=>m.e≠f.e)(i:m∈L)(e:m.e=nm):∃k,fI L nm=T k/\L[k]?=T m:=by
 obtain⟨k,b⟩:=PT i;refine⟨k,uM b (by rw[e];simp) λj g hj c=>?_,b⟩;cases h:(g.e.toList == nm.toList) with
 |false=>rfl
 |true =>have:=xM hn c b (by rw[bytes_beq h,e]);omega
section
variable {L:List SM}{making:List ByteArray}{made:List Ent}{nm:ByteArray}
theorem Ha (h:fB L making made){e:Ent}(n:cJ made nm=T e):∃k m,fI L nm=T k/\L[k]?=T m/\m.done=ZG/\m.B=(dP e).B/\m.h=(dP e).h:=by obtain⟨h1,h2⟩:=pU n;obtain⟨m,c,b,g,j,f,_⟩:=h.got e h1;obtain⟨k,i,l⟩:=qW h.nod c (b.trans h2);exact⟨k,m,i,l,g,j,f⟩
theorem Hb (h:fB L making made)(hi:atL making nm=T i):∃k m,fI L nm=T k/\L[k]?=T m/\m.done=ZA/\nm∈making:=by
 have c:=hi;unfold atL at c;obtain⟨f,h1,_⟩:=QC.1 c;have b:nm∈making:=by rw[<-bytes_beq h1];exact gz f
 obtain⟨m,l,g,j⟩:=h.mkg nm b;obtain⟨k,n,o⟩:=qW h.nod l g;exact⟨k,m,n,o,j,b⟩
theorem BU (h:fB L making made)(g:cJ made nm=Y)(h1:atL making nm=Y):fI L nm=Y/\∀m∈L,m.e≠nm:=by
 have b:∀m∈L,m.e≠nm:=λm c e=>by
  rcases h.all m c with ⟨x,i,f⟩|h2;{exact gZ g x i (f.trans e)};{exact jP h1 _ h2 e}
 refine⟨xK λj m hj c=>?_,b⟩;cases h2:(m.e.toList == nm.toList) with
 |false=>rfl
 |true=>exact absurd (bytes_beq h2) (b m (L8 c))
theorem sf (h:fB L making made)(i:∀m∈L,m.e≠nm)(g:m.e=nm)(n:m.done=ZA):fB (L++[m]) (making++[nm]) made:=by
 refine⟨?_,by simp[h.len];omega,λx l=>?_,λt f=>?_,λy c=>?_⟩;{rw[NI];exact⟨h.nod,TI _ _,λa j b hb=>by rw[nL.1 hb,g];exact i a j⟩};{obtain⟨y,c,r⟩:=h.got x l;exact⟨y,OB _ c,r⟩};{rcases p8.1 f with f|f;{obtain⟨y,c,r⟩:=h.mkg t f;exact⟨y,OB _ c,r⟩};{exact⟨m,PM _ (nL.2 rfl),by rw[g,nL.1 f],n⟩}};{rcases p8.1 c with c|c;{exact(h.all y c).imp id λh=>OB _ h};{rw[nL.1 c,g];exact .inr (PM _ (nL.2 rfl))}}
theorem xN{f:List Ent}{k:Nat}{b:SM}(h:fB L (making++[nm]) f)(ZR:L[k]?=T m)(H:m.e=nm)(l:b.e=nm)(u:x.e=nm)(ZO:b.done=ZG)(ZP:b.B=(dP x).B)(K:b.h=(dP x).h)(ZN:b.c=x.looks)(ZQ:∀y∈f,y.e≠nm)(h1:atL making nm=Y):fB (L.set k b) making (f++[x]):=by
 have B:=(p6.1 ZR).1;have D:=(p6.1 ZR).2;have o:∀y∈L,y.e≠nm->y∈L.set k b:=λy c C=>by
  obtain⟨i,hi⟩:=PT c;refine L8 (i:=i) ?_;rw[OR λe=>?_];{exact hi}
  ·subst e;rw[ZR] at hi;cases hi
   exact C H
 have s:b∈L.set k b:=L8 (NT B);refine⟨?_,by rw[LN,h.len];simp;omega,λy c=>?_,λt q=>?_,λy c=>?_⟩;{have n:=h.nod;rw[NP] at n ⊢;have p:∀(i:Nat) (hi:i<(L.set k b).length),(L.set k b)[i].e=(L[i]'(by simpa using hi)).e:=λi hi=>(by rw[List.getElem_set];split;{rename_i e;subst e;rw[D,H,l]};{rfl});intro i j hi G F;rw[p i hi,p j G];exact n i j (by simpa using hi) (by simpa using G) F};{rcases p8.1 c with c|c;{obtain⟨z,hz,g,r⟩:=h.got y c;exact⟨z,o z hz (by rw[g];exact ZQ y c),g,r⟩};{rw[nL.1 c];exact⟨b,s,by rw[l,u],ZO,ZP,K,ZN⟩}};{obtain⟨z,hz,g,r⟩:=h.mkg t (OB _ q);exact⟨z,o z hz (by rw[g];exact jP h1 t q),g,r⟩};{rcases NG c with E|rfl;{rcases h.all y E with ⟨z,hz,e⟩|h2;{exact .inl ⟨z,OB _ hz,e⟩};{rcases p8.1 h2 with h2|h2;{exact .inr h2};{exact .inl ⟨x,PM _ (nL.2 rfl),by rw[u,nL.1 h2]⟩}}};{exact .inl ⟨x,PM _ (nL.2 rfl),by rw[u,l]⟩}}
end
theorem oq{S:Spc}(h:SpcOk S)(hi:atI (nm0 S.f0) S.n0 nm=T i):atI (nm1 S.f1) S.n1 nm=Y:=by
 have b:=h.chk;unfold ce at b;split at b;· omega
 split at b;· omega
 split at b;· omega
 split at b;· omega
 split at b;· omega
 split at b;· omega
 rename_i c;obtain⟨h1,h2⟩:=cT hi;have:=oW (Bool.eq_false_iff.2 c) h1;rw[h2] at this;exact uL this
open Ca
section
variable {w0:M}{S:Spc}{a0 a1:Option Addr}{c0 c1 hb:Nat}{md or st:ZC}{making:List ByteArray}{made:List Ent}{L:List SM}
theorem EW (w:M)(nm:ByteArray)(h:SI w0 hb (Z a0 S.n0 c0) (Z a1 S.n1 c1) w making made L md or st)(s:L.length<=100000)(k:Nat)(m:SM)(h1:fI L nm=T k)(h2:L[k]?=T m)(C:m.done=ZG):Calls Pg 116 #[.pointer (T (Q hb 0 Y)),U nm] w λe w'=>e=ZF (.agg #[J I m.B,U m.h,Z Y 0 0])/\SI w0 hb (Z a0 S.n0 c0) (Z a1 S.n1 c1) w' making made L md or st/\KS w0.heap.size XN w w':=by
 obtain⟨o,f⟩:∃W:M,A w (N #[J I 0,U ⟨#[]⟩,Z Y 0 0] 84)=W:=⟨_,rfl⟩
 obtain⟨t,kr,-⟩:=nb1 f;have l:=ae f;clear f;have c:=ae (h.aa t ly);have b:w0.heap.size<=w.heap.size:=h.lt;have hkl:=(p6.1 h2).1;obtain⟨g,cap,cur,rfl,-⟩:=h.W.2.resolve_left (λh=>by omega);have ZR:ej (fI L nm)=(k:Int):=by rw[h1];rfl
 have q:=ae h2;obtain⟨n,hn⟩:∃n,n=L.length:=⟨_,rfl⟩
 have y:=ae hn;have hkn:k<n:=by omega
 clear h h1 h2 hn;go_enter func116,ntmps116;go_wp2_with fail;rw[l.out];clear l;refine(o6 o nm c s).mono ?_;rintro e w1 ⟨rfl,r⟩;rw[r];clear r;rw[ZR];obtain⟨hbl,-,-,z,-⟩:=c.H.D;have d1:o.cell? (Q g (k*6+1) Y)=T (J I m.B):=cC c.W q 1 (by omega) rfl;have d2:o.cell? (Q g (k*6+2) Y)=T (U m.h):=cC c.W q 2 (by omega) rfl;have d3:o.cell? (Q g (k*6+3) Y)=T (Z Y 0 0):=cC c.W q 3 (by omega) rfl;have d5:o.cell? (Q g (k*6+5) Y)=T (ZD ZG):=by have:=cC c.W q.out 5 (by omega) (u:=ZD m.done) rfl;rw[C] at this;exact this
 rw[<-y.out] at z;obtain⟨rl,r0,r1,B,p⟩:=bu kr;have rf0:=p 0;have rf1:=p 1;have rf2:=p 2;have hI0:(0:Int)<=(k:Int):=by omega
 have hI1:(k:Int)<(n:Int):=by omega
 clear p;go_wp2_with fail;refine bp (v:=.agg #[J I m.B,U m.h,Z Y 0 0]) (by simp[results,QI,go_sem,r0,r1,B]) rfl ⟨rfl,?_,?_⟩;{have E:=c.R kr.out ⟨by decide,by decide,by decide,by decide⟩ b 0 (J I m.B);have x:=ay kr.out (j:=0) (J I m.B);have D:=E.R x ⟨by decide,by decide,by decide,by decide⟩ b 1 (U m.h);exact D.R (ay x (j:=1) (U m.h)) ⟨by decide,by decide,by decide,by decide⟩ b 2 (Z Y 0 0)}
 ·refine((((KS.u (X:=XN) t ly b).trans (KS.setCell (X:=λi=>i=w.heap.size) _ b (Or.inl rfl) _) ?_).trans (KS.setCell (X:=λi=>i=w.heap.size) _ b (Or.inl rfl) _) ?_).trans (KS.setCell (X:=λi=>i=w.heap.size) _ b (Or.inl rfl) _) ?_);all_goals
   intro i hi h;have e2:i=w.heap.size:=h;omega
theorem uS{w:M}{ZQ:List ByteArray}(h:w.ownsRow b 9 1 (Z (T (Q g 0 Y)) n cap) n (bZ ZQ)){t:ByteArray}(c:ZQ[i]?=T t):w.cell? (Q g i Y)=T (U t):=by have h1:=h.cells (g:=g) rfl i (U t) (by rw[bZ,MK,c];rfl);rw[addr_add,F6] at h1;exact h1
theorem wD (C:o7 w0 S a0 a1)(w:M)(nm:ByteArray)(h:SI w0 hb (Z a0 S.n0 c0) (Z a1 S.n1 c1) w making made L md or st)(JD:L.length<=100000)(Fk:making.length<=60)(k:Nat)(m:SM)(h1:fI L nm=T k)(h2:L[k]?=T m)(hd:m.done=ZA)(tg ZR:Nat)(ht:atI (nm1 S.f1) S.n1 nm=T tg)(hi:atL making nm=T ZR):Calls Pg 116 #[.pointer (T (Q hb 0 Y)),U nm] w λe w'=>mf w0 hb (Z a0 S.n0 c0) (Z a1 S.n1 c1) making L w e w' (.inr (.inl (making.drop ZR))):=by
 obtain⟨i1,Id,JI,JF,Jw⟩:=lp o8;obtain⟨W0,H⟩:∃W:M,A w (N #[J I 0,U ⟨#[]⟩,Z Y 0 0] 84)=W:=⟨_,rfl⟩
 obtain⟨A0,kr,-⟩:=nb1 H;have la:=ae H;clear H;have S0:=ae (h.aa A0 ly);have l:w0.heap.size<=w.heap.size:=h.lt;have hkl:=(p6.1 h2).1;obtain⟨g,cap,cur,rfl,-⟩:=h.W.2.resolve_left (λh=>by omega);have e1:ej (fI L nm)=(k:Int):=by rw[h1];rfl
 have ZQ:ej (atI (nm1 S.f1) S.n1 nm)=(tg:Int):=by rw[ht];rfl
 have JE:ZR<making.length/\(∃x,making[ZR]?=T x/\(x.toList == nm.toList)=ZG)/\∀(j:Nat) (y:ByteArray),j<ZR->making[j]?=T y->(y.toList == nm.toList)=ZA:=by unfold atL at hi;obtain⟨q1,q2,q3⟩:=QC.1 hi;refine⟨q1,⟨_,gq q1,q2⟩,λj y hj ZI=>?_⟩;have:=q3 j hj;rw[Bool.not_eq_true] at this;rw[(p6.1 ZI).2] at this;exact this
 obtain⟨Fd,⟨xi,mv,ph⟩,aq⟩:=JE;obtain⟨ZL,f,cus,rfl,Bk⟩:=h.rst.2.resolve_left (λh=>by omega);have JH:making.length<=f:=Bk.2.2.1;have H2:=ae h2;have JK:=ae mv;have JG:=ae aq;have Ju:=ae ph;obtain⟨n,hn⟩:∃n,n=L.length:=⟨_,rfl⟩
 have HN:=ae hn;have hkn:k<n:=by omega
 obtain⟨c,fd⟩:∃c,c=making.length:=⟨_,rfl⟩
 have B:=ae fd;have CC:=ae C;have hsm:=C.ok.av;rw[<-fd] at Fd Fk JH;clear h h1 h2 hn C ht hi Bk fd mv ph aq;go_enter func116,ntmps116;go_wp2_with fail;rw[la.out];clear la;refine(o6 W0 nm S0 JD).mono ?_;rintro e w1 ⟨rfl,n9⟩;rw[n9];clear n9;rw[e1];obtain⟨P,b0,b1,b2,-⟩:=S0.H.D;have d5:W0.cell? (Q g (k*6+5) Y)=T (ZD ZA):=by have:=cC S0.W H2.out 5 (by omega) (u:=ZD m.done) rfl;rw[hd] at this;exact this
 rw[<-HN.out] at b2;have hI0:(0:Int)<=(k:Int):=by omega
 have hI1:(k:Int)<(n:Int):=by omega
 go_wp2_with fail;refine(iP a0 S.n0 c0 a1 S.n1 c1 S.f0 nm W0 (by omega) (CC.src.aa S0.ao ly)).mono ?_;rintro e w1 ⟨rfl,s⟩;have S1:=ae (S0.aa s ly);have DQ:Hid (w1.heap[w.heap.size]?=_):=(s.block _ (ai kr)).trans kr;have K1:=ae (A0.trans (s.mono A0.size));clear s b0 b1 b2 P d5;obtain⟨P,b0,b1,-⟩:=S1.H.D;go_wp2_with fail;refine(iQ a0 S.n0 c0 a1 S.n1 c1 S.f1 nm w1 (by omega) (CC.K.aa S1.ao ly)).mono ?_;rintro e ZO ⟨he,s⟩;rw[ZQ] at he;subst he;have r:=ae (S1.aa s ly);have ro:Hid (ZO.heap[w.heap.size]?=_):=(s.block _ (ai DQ)).trans DQ;have K2:=ae (K1.trans (s.mono K1.size));clear s b0 b1 P;obtain⟨P,-,-,-,-,b4,b5,b6,b7,b8,bf⟩:=r.H.D;have Jz:=bf 5;have Jt:=bf 6;have Js:=bf 7;have Jy:=bf 8;rw[<-B.out] at b4;clear bf;have hT0:(0:Int)<=(tg:Int):=by omega
 go_wp2_with fail;go_loop [9] (λi=>∃j:Nat,j<=ZR/\i=J I j) (λi=>ZR - (intOf i).toNat);case atStart=>exact⟨0,by omega,rfl⟩
 case round =>
  obtain⟨j,hj,rfl⟩:=hrel;obtain⟨y,ZI⟩:∃y,making[j]?=T y:=⟨_,gq (by have:=B.out;omega)⟩
  have dj:ZO.cell? (Q ZL j Y)=T (U y):=uS r.rst ZI;have hjm:(j:Int)<(c:Int):=by omega
  have HY:=ae ZI;clear ZI;by_cases Jr:j<ZR;{have JA:=JG.out j y Jr HY.out;have HNE:=ae JA;go_wp2;exact⟨⟨j+1,by omega,by go_num⟩,by simp[intOf];omega⟩}
  ·obtain rfl:j=ZR:=by omega
   have hye:(y.toList == nm.toList)=ZG:=by
    have:=HY.out;rw[JK.out] at this;cases this
    exact Ju
   go_upto_region 22 with fail;clear dj b4 b5 b6 b7 b8 Jz Jt Js Jy;have At:=ae (ay r.H (j:=8) (ZD ZG))
   have R3:Hid ((ZO.setCell (Q hb 8 Y) (ZD ZG)).ownsRow w0.heap.size 9 1 (Z (T (Q ZL 0 Y)) making.length f) making.length (bZ making)):=aB r.rst (λe=>by
    obtain⟨_,_,DE,D⟩:=aj r.rst hb e
    exact absurd (ar r.H D) (by decide)) _ _
   have hbw:hb≠w.heap.size:=λe=>absurd (ar r.H (e ▸ ro.out)) (by decide);have ZM:Hid ((ZO.setCell (Q hb 8 Y) (ZD ZG)).heap[w.heap.size]?=_):=(qh _ _ _ _ (UT hbw)).trans ro;have R:Hid (KS w0.heap.size XN w (ZO.setCell (Q hb 8 Y) (ZD ZG))):=(KS.u (X:=XN) K2 ly l).to (KS.setCell ZO r.hbB (.inr λf t fz ZN=>.inr (.inr (ar ZN r.H))) _);have ZK:w0.heap.size<=hb:=r.hbB;generalize World.setCell ZO _ _=b at At R3 ZM R ⊢;have ZP:Hid (ShBox b hb (Z a0 S.n0 c0) (Z a1 S.n1 c1) (Z (T (Q g 0 Y)) L.length cap) or (Z (T (Q ZL 0 Y)) making.length f) 0 ⟨#[]⟩ (Z Y 0 0) ZG):=At.out;obtain⟨DS,-,-,-,-,b4,-⟩:=ZP.D;rw[<-B.out] at b4;have LO:=ae (nJ b 9 1);have A4:=ae ((q9 b).alloc ly (N #[] 9));have JJ:Hid (∀q u,(bZ (making.drop j))[q]?=T u->(A b (N #[] 9)).cell? (((Q ZL j Y):Addr).add q)=T u):=λq u hq=>by have h1:=(own_below R3 A4 ly).cells (g:=ZL) rfl (j+q) u (by rw[<-hq,bZ,bZ,MK,MK,List.getElem?_drop]);rw[addr_add,F6] at h1;rw[addr_add];exact h1
   have hjc:¬ f=j:=by omega
   have hI2:(0:Int)<=(j:Int):=by omega
   have hI3:(j:Int)<=(c:Int):=by omega
   have hI4:(c:Int)<=(f:Int):=by omega
   have DH:(bZ (making.drop j)).length=(c - j)*1:=by rw[bZ,PK,MI,<-B.out,Nat.mul_one]
   have Jq:=ae DH;have ld:∀u∈bZ (making.drop j),u.oneCell'=ZG:=λu hu=>by rw[bZ,PC] at hu;obtain⟨t,_,rfl⟩:=hu;rfl
   have Fn:=ae ld;clear DH ld;have HG:Hid (∀p:M,(A b (N #[] 9)).grownBy p (T b.heap.size)->p.heap[hb]?=b.heap[hb]?/\p.heap[w.heap.size]?=b.heap[w.heap.size]?):=λp hg=>by
    have hz:(A b (N #[] 9)).heap.size=b.heap.size+1:=by simp
    have Jp:=ai ZM.out;exact⟨(hg.block hb (by omega) (λe=>by have ZQ:hb=b.heap.size:=BO e;omega)).trans (A4.block hb DS),(hg.block w.heap.size (by omega) (λe=>by have ZQ:w.heap.size=b.heap.size:=BO e;omega)).trans (A4.block _ Jp)⟩
   have V:b.heap.size<=(A b (N #[] 9)).heap.size:=by simp
   have Hx:(0+(c - j))*16<=140737488355328:=by omega
   have Fm:0+(c - j)<=maxLen:=by unfold maxLen;omega
   have GS:0+(c - j)≠0:=by omega
   go_wp2_with (first
    |(at_builtin;refine bD _ rfl (.tmp 129) (.tmp 135) 66 rfl b.heap.size 9 i1 (U ⟨#[]⟩) 1 16 IH Id JI JF Jw rfl (by decide) (Z (T (Q b.heap.size 0 Y)) 0 0) 0 [] (by simp[Act.eval]) LO.out (Q ZL j Y) (c - j) (f - j) (bZ (making.drop j)) (by simp[Act.eval]) Jq.out JJ.out Fn.out Fm Hx V ?_;intro v4 p E o Jv;have O4:=ae E;have th:=ae (HG p o).1;have ur:=ae (HG p o).2;have G4:=ae o;obtain⟨F,c4,cu4,rfl,JB⟩:=E.2.resolve_left (λh=>GS h.2);clear JB E o Jv;obtain⟨hbl4,-,-,-,-,-,f5,f6,f7,-,ff⟩:=(ShBox.ab ZP th).D;have ff5:=ff 5;have ff6:=ff 6;have ff7:=ff 7;obtain⟨rl,r0,r1,r2,rf⟩:=bu (ur.trans ZM);have rf0:=rf 0;have rf1:=rf 1;have rf2:=rf 2;have hbw2:¬ w.heap.size=hb:=(λe=>hbw e.symm);have O:¬ hb=w.heap.size:=hbw;clear ff rf)
    |fail)
   refine bp (v:=.agg #[J I 6,U ⟨#[]⟩,Z (T (Q F 0 Y)) (c - j) c4]) (by simp[results,QI,go_sem,r0,r1,r2]) rfl ?_;have bt:(making.drop j).length=c - j:=by rw[MI,<-B.out]
   have dg:=th.trans ZP.out;have sm:=ay dg (j:=5) (J I 6);have qr:=ay sm (j:=6) (U ⟨#[]⟩);have JC:=ay qr (j:=7) (Z (T (Q F 0 Y)) (c - j) c4);have K:(Value.slice (T (Q F 0 Y)) (c - j) c4).ownBlock≠T hb:=λe=>by obtain⟨_,_,DE,D⟩:=aj O4 hb (by simpa[Value.ownBlock] using e);exact absurd (ar dg D) (by decide)
   have G:(Value.slice (T (Q F 0 Y)) (c - j) c4).ownBlock≠T w.heap.size:=λe=>by obtain⟨_,_,DE,D⟩:=aj O4 w.heap.size (by simpa[Value.ownBlock] using e);exact absurd (ar (ur.trans ZM) D) (by decide)
   have o4:p.ownsRow w0.heap.size 9 1 (Z (T (Q F 0 Y)) (c - j) c4) (c - j) (bZ (making.drop j)):=by have h1:=O4.out;rw[F6,MH] at h1;exact aC h1 (p9 l R.aa.size)
   have k4:KS w0.heap.size XN w p:=(R.to (KS.u (X:=XN) A4 ly (p9 l R.aa.size))).to (KS.of_grown G4 (p9 (p9 l R.aa.size) V) λq hq=>by
    have ZQ:q=b.heap.size:=(BO hq).symm;refine⟨by rw[ZQ];exact p9 l R.aa.size,.inr λf t fz ZN=>?_⟩;rw[ZQ] at ZN
    exact .inl (ar ZN (n6 b _)))
   have z:∀(W:M) (f:Array ZC) (t:ZH) (fz:Nat × Nat),W.heap[hb]?=p.heap[hb]?∨(∃c2,W.heap[hb]?=T (N c2 132 (0,0)))->W.heap[hb]?=T (N f t fz)->t=9∨t=179∨t=132:=λW f t fz ZJ ZN=>by
    rcases ZJ with ZJ|⟨c2,ZJ⟩
    {exact .inr (.inr (ar ZN (ZJ.trans dg)))};{exact .inr (.inr (ar ZN ZJ))}
   refine⟨T (Q F 0 Y),c4,by rw[bt];rfl,⟨_,_,_,_,_,(qh _ _ _ _ O).trans ((qh _ _ _ _ O).trans ((qh _ _ _ _ O).trans (by rw[bt];exact JC))),?_⟩,?_⟩;{show World.ownsRow _ _ _ _ _ (making.drop j).length _;rw[bt];exact aB (aB (aB (aB (aB (aB o4 K _ _) K _ _) K _ _) G _ _) G _ _) G _ _}
   ·have k7:=((k4.to (KS.setCell (X:=XN) p ZK (.inr λf t fz=>z _ f t fz (.inl rfl)) (J I 6) (j:=5))).to (KS.setCell (X:=XN) _ ZK (.inr λf t fz=>z _ f t fz (.inr ⟨_,sm⟩)) (U ⟨#[]⟩) (j:=6))).to (KS.setCell (X:=XN) _ ZK (.inr λf t fz=>z _ f t fz (.inr ⟨_,qr⟩)) (Z (T (Q F 0 Y)) (c - j) c4) (j:=7));refine((k7.trans (KS.setCell (X:=λi=>i=w.heap.size) _ l (Or.inl rfl) _) ?_).trans (KS.setCell (X:=λi=>i=w.heap.size) _ l (Or.inl rfl) _) ?_).trans (KS.setCell (X:=λi=>i=w.heap.size) _ l (Or.inl rfl) _) ?_;all_goals
     intro i hi h;have ZQ:i=w.heap.size:=h;omega
end
def gv (nm:ByteArray):SM:=⟨nm,0,⟨#[]⟩,[],Z Y 0 0,ZA⟩
theorem EX (w:M)(b m i c g l:ZC)(t:ZH):∀j u,[b,m,i,c,g,l][j]?=T u->(A w (N #[b,m,i,c,g,l] t)).cell? (((Q w.heap.size 0 Y):Addr).add j)=T u:=by
 intro j u h;rw[addr_add];have hj:j<6:=by
  rcases N1 j 6 with f|f;{exact f};{rw[MR (by simp;omega)] at h;cases h}
 rcases(show j=0∨j=1∨j=2∨j=3∨j=4∨j=5 by omega) with rfl|rfl|rfl|rfl|rfl|rfl;all_goals
  simp at h;subst h;simp
theorem pd (w:M)(v:ZC)(t:ZH):∀j u,[v][j]?=T u->(A w (N #[v] t)).cell? (((Q w.heap.size 0 Y):Addr).add j)=T u:=by
 intro j u h;rw[addr_add];have b:j=0:=by
  rcases N1 j 1 with c|c;{omega};{rw[MR (by simp;omega)] at h;cases h}
 subst b;simp at h;subst h;simp
theorem jU{w:M}{v:ZC}{c:List ZC}(h:w.ownsRow b e size v n c):∃a cap,v=Z a n cap:=by
 obtain⟨_,⟨rfl,rfl⟩|⟨g,cap,cur,rfl,_⟩⟩:=h;{exact⟨Y,0,rfl⟩};{exact⟨_,_,rfl⟩}
theorem KS.fresh{W w:M}(h:KS B XN W w)(hb:W.heap.size<=b)(c:B<=W.heap.size)(j:Nat)(u:ZC):KS B XN W (w.setCell (Q b j Y) u) :=
 h.trans (KS.setCell (X:=λi=>i=b) w (p9 c hb) (Or.inl rfl) u) λi hi f=>by have e2:i=b:=f;omega
section
variable {w0 w:M}{hb:Nat}{s0 s1 or st:ZC}{making:List ByteArray}{made:List Ent}{L:List SM}
theorem SI.upd'{k:Nat}(l:L.length=ZN)(h:SI w0 hb s0 s1 w making made L (Z (T (Q g 0 Y)) ZN cap) or st)(b:L[k]?=T m)(i:j<6)(f:smV m'=(smV m).set j u)(c:m'.done=ZG->w.ownsRow w0.heap.size 181 3 m'.sv m'.c.length (eC m'.c)):SI w0 hb s0 s1 (w.setCell (Q g (k*6+j) Y) u) making made (L.set k m') (Z (T (Q g 0 Y)) ZN cap) or st/\KS w0.heap.size XN w (w.setCell (Q g (k*6+j) Y) u)/\(L.set k m')[k]?=T m'/\(L.set k m').length=ZN:=by subst l;have:=h.upd b i f c;rw[LN] at this;exact⟨this.1,this.2,NT (p6.1 b).1,LN⟩
theorem SI.told{k:Nat}(s:L.length=ZN)(h:SI w0 hb s0 s1 w making made L (Z (T (Q g 0 Y)) ZN cap) or st)(t:L[k]?=T m)(r:m.done=ZA)(b:Int)(rt:ByteArray):SI w0 hb s0 s1 (((w.setCell (Q g (k*6+1) Y) (J I b)).setCell (Q g (k*6+1+1) Y) (U rt)).setCell (Q g (k*6+1+2) Y) (Z Y 0 0)) making made (L.set k ⟨m.e,b,rt,m.c,m.sv,ZA⟩) (Z (T (Q g 0 Y)) ZN cap) or st/\KS w0.heap.size XN w (((w.setCell (Q g (k*6+1) Y) (J I b)).setCell (Q g (k*6+1+1) Y) (U rt)).setCell (Q g (k*6+1+2) Y) (Z Y 0 0))/\(L.set k ⟨m.e,b,rt,m.c,m.sv,ZA⟩)[k]?=T ⟨m.e,b,rt,m.c,m.sv,ZA⟩/\(L.set k ⟨m.e,b,rt,m.c,m.sv,ZA⟩).length=ZN:=by obtain⟨a1,o,n,z⟩:=h.upd' s t (j:=1) (by omega) (u:=J I b) (m':=⟨m.e,b,m.h,m.c,m.sv,ZA⟩) (by simp[smV,r]) (λh=>by cases h);obtain⟨x,l,y,q⟩:=a1.upd' z n (j:=2) (by omega) (u:=U rt) (m':=⟨m.e,b,rt,m.c,m.sv,ZA⟩) rfl (λh=>by cases h);obtain⟨f,p,c,i⟩:=x.upd' q y (j:=3) (by omega) (m':=⟨m.e,b,rt,m.c,m.sv,ZA⟩) (u:=Z Y 0 0) rfl (λh=>by cases h);rw[TV,TV] at f c i;exact⟨f,(o.to l).to p,c,i⟩
end
theorem Ja{z:Int}(h0:0<=z)(h1:z<=1048576):IntKind.i64.wrap z=z:=by rw[wA];omega
theorem It{w:M}{c:Nat}{t:ZH}{v:ZC}{g:List ZC}{j:Array ZC}{fz:Nat × Nat}(h:w.ownsRow c e size v n g)(hb:w.heap[b]?=T (N j t fz))(f:e≠t):v.ownBlock≠T b:=λk=>by obtain⟨_,_,cs',i⟩:=aj h b k;exact f (ar i hb)
theorem Iu{w w':M}{v:ZC}{b:List ZC}(h:w.ownsRow B 181 3 v n b)(c:KS B XN w w'):w'.ownsRow B 181 3 v n b:=du h λk e=>by obtain⟨_,_,cs,f⟩:=aj h k e;exact c.ab _ _ _ _ f (by decide) (by decide) (by decide) λh=>h
theorem LExt.add (n:Nat)(L:List SM)(g:m.done=ZA):LExt n L (L++[m]):=by
 refine⟨λi f b=>⟨f,?_,rfl⟩,λf b c=>?_⟩;{rw[MM (p6.1 b).1];exact b};{rcases p8.1 b with b|b;{exact .inl ⟨f,b,c,rfl⟩};{rw[nL.1 b,g] at c;cases c}}
theorem LExt.set{k:Nat}{L g:List SM}(h:LExt n L g)(q:g[k]?=T m)(t:c.e=m.e)(s:∀j,c.sv.ownBlock=T j->n<=j):LExt n L (g.set k c):=by
 refine⟨λi l b=>?_,λl b o=>?_⟩
 ·obtain⟨u,h3,p⟩:=h.nam i l b;by_cases f:k=i
  ·subst f;rw[q] at h3;cases h3
   exact⟨c,NT (p6.1 q).1,t.trans p⟩
  {exact⟨u,by rw[OR f];exact h3,p⟩}
 {rcases NG b with r|rfl;{exact h.sn l r o};{exact .inr s}}
section
variable {w0:M}{S:Spc}{a0 a1:Option Addr}{c0 c1 hb:Nat}{md or st:ZC}{making:List ByteArray}{made:List Ent}{L:List SM}
set_option linter.unusedVariables false in
theorem mh:(∀(C:o7 w0 S a0 a1) (w:M) (nm:ByteArray) (h:SI w0 hb (Z a0 S.n0 c0) (Z a1 S.n1 c1) w making made L md or st) (JU:L.length<=100000) (Lc:made.length<=100000) (h1:fI L nm=Y) (h3:atI (nm1 S.f1) S.n1 nm=Y) (f:Int) (tx:ByteArray) (hw:(atI (nm0 S.f0) S.n0 nm=Y/\f=4/\tx=nm)∨∃si,atI (nm0 S.f0) S.n0 nm=T si/\f=0/\tx=(S.f0 si).h) (kd:Int) (te:ByteArray),Calls Pg 116 #[.pointer (T (Q hb 0 Y)),U nm] w λe w'=>∃JA Ju,e=ZF (.agg #[J I f,U tx,Z Y 0 0])/\SI w0 hb (Z a0 S.n0 c0) (Z a1 S.n1 c1) w' making (made++[⟨nm,kd,0,te,0,[]⟩]) ((L++[gv nm]).set L.length ⟨nm,f,tx,[],Z Y 0 0,ZG⟩) JA Ju st/\KS w0.heap.size XN w w')/\(∀(C:o7 w0 S a0 a1) (w:M) (nm:ByteArray) (h:SI w0 hb (Z a0 S.n0 c0) (Z a1 S.n1 c1) w making made L md or st) (JU:L.length<=100000) (h1:fI L nm=Y) (hi:atL making nm=Y) (tg:Nat) (h3:atI (nm1 S.f1) S.n1 nm=T tg) (X:Out Ent) (hd:(making.length=60/\X=.inr (.inr nm))∨∃n',making.length+(n'+1)=60/\nf w0 S hb (Z a0 S.n0 c0) (Z a1 S.n1 c1) n'/\fB L making made/\PG S making made/\eZ S making made 1/\MT S making/\cJ made nm=Y/\X=mW nm tg (dV S (bG S n' (making++[nm])) tg 201 made [] [])),Calls Pg 116 #[.pointer (T (Q hb 0 Y)),U nm] w λe w'=>mf w0 hb (Z a0 S.n0 c0) (Z a1 S.n1 c1) making L w e w' X):=by
 refine⟨λC w nm h JU Lc h1 h3 f tx hw kd te=>?_,λC w nm h JU h1 hi tg h3 X hd=>?_⟩;rotate_left;focus
  rcases hd with ⟨JF,hX⟩|⟨n',Lz,HK,hrel,hp,At,Ln,ZL,hX⟩
  case' inl=>(subst hX;have DEEP:=True.intro)
  case' inr =>
   obtain⟨-,aq⟩:=BU hrel ZL hi;have hmade:made.length<=50000:=by unfold eZ at At;omega
   have JF:making.length<60:=by omega
   have sm:=(cT h3).1;obtain⟨R,hR⟩:∃R,R=dV S (bG S n' (making++[nm])) tg 201 made [] []:=⟨_,rfl⟩
   have HR:=ae hR;obtain⟨tb,Lu,Lm,Ky⟩:=C.K.resolve_left (by omega);have Mz:=ae Lm;have JJ:=ae Ky;have J6:Hid (∀(W:M) (JA Ju KE:ZC) (a:Option Addr) (cap:Nat),SI w0 hb (Z a0 S.n0 c0) (Z a1 S.n1 c1) W (making++[nm]) made (L++[gv nm]) JA Ju KE->SlIns w0 a (S.f1 tg).f (S.f1 tg).G->Calls Pg 144 #[.pointer (T (Q hb 0 Y)),.agg #[Z a (S.f1 tg).f cap]] W λe w'=>pa w0 hb (Z a0 S.n0 c0) (Z a1 S.n1 c1) (making++[nm]) (L++[gv nm]) W e w' R):=by
    intro W JA Ju KE a cap hS JW;rw[hR];refine EO C n' HK made _ JA Ju KE W a cap tg (by rw[cM,DW];omega) hS (sf hrel aq rfl rfl) (qJ hp ZL) ?_ ?_ sm JW
    ·have:=iN sm (cT h3).2 ZL hi
     unfold eZ at At ⊢;omega
    ·intro t ht
     rcases p8.1 ht with ht|ht
     ·exact Ln t ht
     ·rw[nL.1 ht,h3];rfl
   have HI:=ae hi;have H0:=ae ZL;have Lf:Hid (∀E x,R=.inl (E,x)->E.length<=100000/\∀y∈E,y.e≠nm):=by intro E x he;rw[hR] at he;have g1:=rT C.ok sm (ma C.ok n' (making++[nm])) _ _ _ _ _ _ (qJ hp ZL) (uy S made) rfl he;have l:=rS (λmade ME KV e=>lZ S n' (making++[nm]) made ME KV e) _ _ _ _ _ _ he;have g3:=iN sm (cT h3).2 ZL hi;refine⟨?_,(qK g1.1).2⟩;unfold gu at l;unfold eZ at At;omega
   have Ll:=ae aq;have HREL:=ae hrel;subst hX;rw[<-hR];clear HK hp At Ln ZL Ky Lm hR aq hrel;clear Lz sm
 all_goals
  obtain⟨im,Mv,L9,Bk,J4⟩:=lp EI;obtain⟨i1,Kw,Ks,KQ,Kb⟩:=lp o8;obtain⟨W0,JK⟩:∃W:M,A w (N #[J I 0,U ⟨#[]⟩,Z Y 0 0] 84)=W:=⟨_,rfl⟩
  obtain⟨A0,kr,-⟩:=nb1 JK;have KN:=ae JK;clear JK;have S0:=ae (h.aa A0 ly);have D:w0.heap.size<=w.heap.size:=h.lt;have e1:ej (fI L nm)=-1:=by rw[h1];rfl
  obtain⟨am,cm,rfl⟩:=jU h.W;obtain⟨n,hn⟩:∃n,n=L.length:=⟨_,rfl⟩
  have HN:=ae hn;have CC:=ae C;have hsm:=C.ok.av;have hn1:n<=100000:=by omega
  clear h h1 hn C
 rotate_left 2;focus
  have et:ej (atI (nm1 S.f1) S.n1 nm)=-1:=by rw[h3];rfl
  rcases hw with ⟨h2,DE,Ka⟩|⟨si,h2,DE,Ka⟩
  case' inl=>have es:ej (atI (nm0 S.f0) S.n0 nm)=-1:=by rw[h2];rfl
  case' inr =>
   have es:ej (atI (nm0 S.f0) S.n0 nm)=(si:Int):=by rw[h2];rfl
   have Mr:=(cT h2).1;obtain⟨sb,so,Lb,Ls⟩:∃sb so,a0=T (Q sb so Y)/\RowSource w0 sb so S.n0 S.f0:=by
    rcases CC.src with h|⟨b,off,e,hr⟩
    ·omega
    ·exact⟨b,off,e,hr⟩
   have Kk:=ae Ls;have LV:=ae Lb;clear Ls Lb
  all_goals
   have Li:=ae Ka;have Lj:=ae DE;clear h2 h3 Ka DE
 rotate_left 2;iterate 2
  focus
   obtain⟨es0,es⟩:∃z,ej (atI (nm0 S.f0) S.n0 nm)=z:=⟨_,rfl⟩
   have et:ej (atI (nm1 S.f1) S.n1 nm)=(tg:Int):=by rw[h3];rfl
   have J8:∀(j:Nat) (y:ByteArray),making[j]?=T y->(y.toList == nm.toList)=ZA:=λj y hy=>by unfold atL at hi;rw[QD] at hi;exact hi y (L8 hy)
   have MD:=ae J8;obtain⟨ms,Ki⟩:∃ms,ms=making.length:=⟨_,rfl⟩
   have fd:=ae Ki;have hT0:(0:Int)<=(tg:Int):=by omega
   have sm:=(cT h3).1;rw[<-Ki] at JF;obtain⟨Lt,Ld,rfl⟩:=jU S0.rst;clear h3 hi J8 Ki
  rotate_left
 all_goals
  go_enter func116,ntmps116;go_wp2_with fail;rw[KN.out];clear KN;refine(o6 W0 nm S0 JU).mono ?_;rintro e w1 ⟨rfl,KZ⟩;rw[KZ,e1];clear KZ e1;obtain⟨G,-,-,b2,-⟩:=S0.H.D;rw[<-HN.out] at b2;have A1:=ae ((q9 W0).alloc ly (N #[U nm,J I 0,U ⟨#[]⟩,Z Y 0 0,Z Y 0 0,ZD ZA] 179));have SA:=ae (S0.aa A1 ly);have RM:=ae (by have h:=SA.W;rw[<-HN.out] at h;exact h);have Mk:(A W0 (N #[U nm,J I 0,U ⟨#[]⟩,Z Y 0 0,Z Y 0 0,ZD ZA] 179)).heap.size=W0.heap.size+1:=by simp
  have HG:Hid (∀ZP:M,(A W0 (N #[U nm,J I 0,U ⟨#[]⟩,Z Y 0 0,Z Y 0 0,ZD ZA] 179)).grownBy ZP (Value.slice am n cm).ownBlock->ZP.heap[hb]?=(A W0 (N #[U nm,J I 0,U ⟨#[]⟩,Z Y 0 0,Z Y 0 0,ZD ZA] 179)).heap[hb]?):=λZP hg=>hg.block hb (by omega) λe=>by obtain⟨_,_,cs,hc⟩:=aj RM hb e.symm;exact absurd (ar SA.H hc) (by decide)
  have LJ:w0.heap.size<=(A W0 (N #[U nm,J I 0,U ⟨#[]⟩,Z Y 0 0,Z Y 0 0,ZD ZA] 179)).heap.size:=SA.lt;have hz1':W0.heap.size<(A W0 (N #[U nm,J I 0,U ⟨#[]⟩,Z Y 0 0,Z Y 0 0,ZD ZA] 179)).heap.size:=by omega
  clear Mk
  go_upto_region 7 with (first
   |(at_builtin;refine bD _ rfl (.tmp 46) (.tmp 49) 130 rfl w0.heap.size 179 im (.agg #[U ⟨#[]⟩,J I 0,U ⟨#[]⟩,Z Y 0 0,Z Y 0 0,ZD ZA]) 6 96 underlying130 Mv L9 Bk J4 rfl (by decide) (Z am n cm) n (L.flatMap smV) (by simp[Act.eval]) RM.out (Q W0.heap.size 0 Y) 1 1 [U nm,J I 0,U ⟨#[]⟩,Z Y 0 0,Z Y 0 0,ZD ZA] (by simp[Act.eval]) rfl (EX W0 _ _ _ _ _ _ _) (by simp[Value.oneCell']) (by unfold maxLen;omega) (by omega) LJ ?_;intro v2 ZP F r la;have O2:=ae F;have G2:=ae r;have La:=ae (HG ZP r);obtain⟨l,Fm,cu2,rfl,Me⟩:=F.2.resolve_left (λh=>by omega);clear Me F r la;obtain⟨LI,-,-,f2,-,-,-,-,-,-,ff⟩:=(ShBox.ab SA.H La).D;have MA:=ff 2;clear ff)
   |fail)
  have SX:=ae (SA.addL (m:=gv nm) (w':=ZP) (v:=Z (T (Q l 0 Y)) (n+1) Fm) (by rw[<-HN.out];exact G2) (by rw[<-HN.out];exact O2) rfl);have S3:=ae SX.1;have K3:Hid (KS w0.heap.size XN w (ZP.setCell (Q hb 2 Y) (Z (T (Q l 0 Y)) (n+1) Fm))):=((KS.u (X:=XN) A0 ly D).to (KS.u A1 ly S0.lt)).to SX.2;have JS:Hid ((ZP.setCell (Q hb 2 Y) (Z (T (Q l 0 Y)) (n+1) Fm)).heap[w.heap.size]?=T (N #[J I 0,U ⟨#[]⟩,Z Y 0 0] 84 (0,0))):=by have ZL:=(A1.block _ (ai kr)).trans kr;exact(SX.2.ab _ _ _ _ ZL (by decide) (by decide) (by decide) λh=>h).trans ZL
  have dg:(L++[gv nm]).length=n+1:=by rw[cM,DW,<-HN.out]
  have bt:Hid ((L++[gv nm])[n]?=T (gv nm)):=by rw[HN.out];show _=_;rw[I5 ly,Nat.sub_self];rfl
  clear SX f2 MA LI b2 G RM SA A1 HG O2 G2 La;generalize World.setCell ZP _ _=W3 at S3 K3 JS ⊢;obtain⟨G,b0,b1,-⟩:=S3.H.D;go_wp2_with fail;refine(iP a0 S.n0 c0 a1 S.n1 c1 S.f0 nm W3 (by omega) (CC.src.aa S3.ao ly)).mono ?_;rintro e w4 ⟨he,hB⟩;rw[es] at he;subst he;have S4:=ae (S3.aa hB ly);have KD:Hid (w4.heap[w.heap.size]?=_):=(hB.block _ (ai JS)).trans JS;have K4:=ae (K3.to (KS.u (X:=XN) hB ly S3.lt));clear hB b0 b1 G S3 K3 JS;obtain⟨G,b0,b1,-⟩:=S4.H.D;go_wp2_with fail;refine(iQ a0 S.n0 c0 a1 S.n1 c1 S.f1 nm w4 (by omega) (CC.K.aa S4.ao ly)).mono ?_;rintro e O ⟨he,hB⟩;rw[et] at he;subst he;have S5:=ae (S4.aa hB ly);have qr:Hid (O.heap[w.heap.size]?=T (N #[J I 0,U ⟨#[]⟩,Z Y 0 0] 84 (0,0))):=(hB.block _ (ai KD)).trans KD;have K5:=ae (K4.to (KS.u (X:=XN) hB ly S4.lt));clear hB b0 b1 G S4 K4 KD A0 S0 kr
 iterate 2
  ·first
    |guard_hyp Kk
     have A5:=ae ((q9 O).alloc ly (N #[J I 4,U nm,Z Y 0 0] 84));have KO:=ae (S5.aa A5 ly);have hI0:(0:Int)<=(si:Int):=by omega
     have hI1:(si:Int)<(S.n0:Int):=by omega
     have q0:(A O (N #[J I 4,U nm,Z Y 0 0] 84)).cell? (Q hb 0 Y)=T (Z (T (Q sb so Y)) S.n0 c0):=by have h:=KO.H.D.2.1;rw[LV.out] at h;exact h
     have q1:(A O (N #[J I 4,U nm,Z Y 0 0] 84)).cell? (Q sb (so+si*2+1) Y)=T (U tx):=by rw[Li.out];exact((Kk.aa KO.ao ly).2 si Mr).2
     have G:=S5.H.D.1;have ql:sb<O.heap.size:=lj Kk.1 S5.lt;go_upto_region 13 with fail;clear q0 q1 ql G A5 KO;obtain⟨ZR,JH⟩:∃W:M,A O (N #[J I 0,U tx,Z Y 0 0] 84)=W:=⟨_,rfl⟩
     obtain⟨A6,-,-⟩:=nb1 JH;have JI:=ae JH;clear JH;have ZK:Hid (ZR.heap[O.heap.size]?=T (N #[J I f,U tx,Z Y 0 0] 84 (0,0))):=by rw[<-JI.out];rw[Lj.out];exact n6 _ _
     rw[JI.out];clear JI
    |skip
     go_upto_region 13 with fail;have ZK:Hid ((A O (N #[J I 4,U nm,Z Y 0 0] 84)).heap[O.heap.size]?=T (N #[J I f,U tx,Z Y 0 0] 84 (0,0))):=by rw[Lj.out,Li.out];exact n6 _ _
     have A6:=ae ((q9 O).alloc ly (N #[J I 4,U nm,Z Y 0 0] 84));generalize World.alloc O _=ZR at A6 ZK ⊢
   have P:=ae (S5.aa A6 ly);have ro:Hid (ZR.heap[w.heap.size]?=T (N #[J I 0,U ⟨#[]⟩,Z Y 0 0] 84 (0,0))):=(A6.block _ (ai qr)).trans qr;have K6:=ae (K5.to (KS.u (X:=XN) A6 ly S5.lt));obtain⟨s,Jz⟩:∃s,s=O.heap.size:=⟨_,rfl⟩
   rw[<-Jz] at ZK ⊢;have LP:w.heap.size<=s:=by have:=K5.aa.size;omega
   clear Jz A6 S5 qr K5;obtain⟨G,-,-,b2,-⟩:=P.H.D;obtain⟨rl,r0,r1,r2,-⟩:=bu ZK;obtain⟨LF,Lw,JV,DS⟩:=aj P.W l rfl;have DQ:=ae DS;have R6:=ae (by have h:=P.W;rw[dg] at h;exact h);have q1:ZR.cell? (Q l (n*6+1) Y)=T (J I 0):=cC (by rw[dg];exact R6) bt 1 (by omega) rfl;have q2:ZR.cell? (Q l (n*6+1+1) Y)=T (U ⟨#[]⟩):=cC (by rw[dg];exact R6) bt 2 (by omega) rfl;have q3:ZR.cell? (Q l (n*6+1+2) Y)=T (Z Y 0 0):=cC (by rw[dg];exact R6) bt 3 (by omega) rfl;have qf:∀j,ZR.frozen? (Q l j Y)=ZA:=λj=>by simp[World.frozen?,DS]
   have KH:=qf (n*6+1);have KP:=qf (n*6+1+1);have Kx:=qf (n*6+1+2);clear qf DS;have LX:(n:Int)<(n:Int)+1:=by omega
   have ld:l≠hb:=by intro e;have h:=DQ.out;rw[e] at h;exact absurd (ar h P.H) (by decide)
   have o:l≠s:=by intro e;have h:=DQ.out;rw[e] at h;exact absurd (ar h ZK) (by decide)
   refine wp_region_held_drew (S:=λV=>V.cell? (Q hb 2 Y)=T (Z (T (Q l 0 Y)) (n+1) Fm)/\V.cell? (Q s 0 Y)=T (J I f)/\V.cell? (Q s 1 Y)=T (U tx)/\V.cell? (Q s 2 Y)=T (Z Y 0 0)) (by kernel_rfl) ⟨b2,r0,r1,r2⟩ λhS=>?_;have HS:=ae hS;clear hS
   iterate 8
    first|refine cK 0 (v:=?_) rfl rfl (by kernel_rfl) (λ_ _ _ h=>h) rfl ?_ HS ?_|refine cK 4 (v:=?_) rfl rfl (by kernel_rfl) (λ_ _ _ h=>h) rfl ?_ HS ?_
    rotate_left
    ·(rintro wz ⟨s0,s1,s2,s3⟩;go_simp)
     (try with_reducible rfl)
    (try simp only[Act.put,nzL])
   have TL:=ae (P.told dg bt rfl f tx)
   have JB:Hid ((((ZR.setCell (Q l (n*6+1) Y) (J I f)).setCell (Q l (n*6+1+1) Y) (U tx)).setCell (Q l (n*6+1+2) Y) (Z Y 0 0)).drew.cell? (Q hb 2 Y)=T (Z (T (Q l 0 Y)) (n+1) Fm)/\(((ZR.setCell (Q l (n*6+1) Y) (J I f)).setCell (Q l (n*6+1+1) Y) (U tx)).setCell (Q l (n*6+1+2) Y) (Z Y 0 0)).drew.cell? (Q s 0 Y)=T (J I f)/\(((ZR.setCell (Q l (n*6+1) Y) (J I f)).setCell (Q l (n*6+1+1) Y) (U tx)).setCell (Q l (n*6+1+2) Y) (Z Y 0 0)).drew.cell? (Q s 1 Y)=T (U tx)/\(((ZR.setCell (Q l (n*6+1) Y) (J I f)).setCell (Q l (n*6+1+1) Y) (U tx)).setCell (Q l (n*6+1+2) Y) (Z Y 0 0)).drew.cell? (Q s 2 Y)=T (Z Y 0 0)) :=
    ⟨(cell_far _ _ _ _ ld).trans ((cell_far _ _ _ _ ld).trans ((cell_far _ _ _ _ ld).trans b2)),(cell_far _ _ _ _ o).trans ((cell_far _ _ _ _ o).trans ((cell_far _ _ _ _ o).trans r0)),(cell_far _ _ _ _ o).trans ((cell_far _ _ _ _ o).trans ((cell_far _ _ _ _ o).trans r1)),(cell_far _ _ _ _ o).trans ((cell_far _ _ _ _ o).trans ((cell_far _ _ _ _ o).trans r2))⟩
   refine bB (i:=8) rfl (by kernel_rfl) λK hK=>?_;go_simp;refine hK _ _ JB ?_;clear hK K HS q1 q2 q3 KH KP Kx b2 r0 r1 r2 rl
   (try simp only[Act.put])
   refine wpAnyH_done (by kernel_rfl) ?_ _;have D7:Hid (Below (((ZR.setCell (Q l (n*6+1) Y) (J I f)).setCell (Q l (n*6+1+1) Y) (U tx)).setCell (Q l (n*6+1+2) Y) (Z Y 0 0)).heap.size (((ZR.setCell (Q l (n*6+1) Y) (J I f)).setCell (Q l (n*6+1+1) Y) (U tx)).setCell (Q l (n*6+1+2) Y) (Z Y 0 0)) (((ZR.setCell (Q l (n*6+1) Y) (J I f)).setCell (Q l (n*6+1+1) Y) (U tx)).setCell (Q l (n*6+1+2) Y) (Z Y 0 0)).drew):=br.drew;have S7:=ae (TL.1.aa D7 ly);have K7:=ae (K6.to (TL.2.1.to (KS.u (X:=XN) D7 ly TL.1.lt)));have Jy:=TL.2.2.1;have Js:=TL.2.2.2;have ZQ:Hid ((((ZR.setCell (Q l (n*6+1) Y) (J I f)).setCell (Q l (n*6+1+1) Y) (U tx)).setCell (Q l (n*6+1+2) Y) (Z Y 0 0)).drew.heap[w.heap.size]?=T (N #[J I 0,U ⟨#[]⟩,Z Y 0 0] 84 (0,0))):=by have ZL:=(TL.2.1.ab _ _ _ _ ro (by decide) (by decide) (by decide) λh=>h).trans ro;exact ZL
   have n9:Hid ((((ZR.setCell (Q l (n*6+1) Y) (J I f)).setCell (Q l (n*6+1+1) Y) (U tx)).setCell (Q l (n*6+1+2) Y) (Z Y 0 0)).drew.heap[s]?=T (N #[J I f,U tx,Z Y 0 0] 84 (0,0))):=by have ZL:=(TL.2.1.ab _ _ _ _ ZK (by decide) (by decide) (by decide) λh=>h).trans ZK;exact ZL
   have GS:=ae Jy;have Fk:=ae Js;clear TL JB Jy Js ro ZK K6 P R6 DQ D7;generalize World.drew (World.setCell (World.setCell (World.setCell ZR _ _) _ _) _ _)=W7 at S7 K7 ZQ n9 ⊢;obtain⟨G,-,-,b2,-⟩:=S7.H.D;obtain⟨JR,JZ,KX,th⟩:=aj S7.W l rfl;have q5:W7.cell? (Q l (n*6+5) Y)=T (ZD ZA):=cC (by have h:=S7.W;rw[Fk.out] at h ⊢;exact h) GS 5 (by omega) rfl;have Kc:W7.frozen? (Q l (n*6+5) Y)=ZA:=by simp[World.frozen?,th]
   have TD:=ae (S7.upd' Fk GS (j:=5) (by omega) (u:=ZD ZG) (m':=⟨nm,f,tx,[],Z Y 0 0,ZG⟩) rfl (λ_=>⟨rfl,.inl ⟨rfl,rfl⟩⟩));have B:Hid ((W7.setCell (Q l (n*6+5) Y) (ZD ZG)).heap[w.heap.size]?=T (N #[J I 0,U ⟨#[]⟩,Z Y 0 0] 84 (0,0))):=(TD.2.1.ab _ _ _ _ ZQ (by decide) (by decide) (by decide) λh=>h).trans ZQ;have ZJ:Hid ((W7.setCell (Q l (n*6+5) Y) (ZD ZG)).heap[s]?=T (N #[J I f,U tx,Z Y 0 0] 84 (0,0))):=(TD.2.1.ab _ _ _ _ n9 (by decide) (by decide) (by decide) λh=>h).trans n9;have S8:=ae TD.1;have K8:=ae (K7.to TD.2.1);clear th;go_upto_region 15 with fail;clear b2 q5 Kc TD S7 K7 ZQ n9;generalize World.setCell W7 _ _=H at S8 K8 B ZJ ⊢;obtain⟨ao,co,rfl⟩:=jU S8.ror;obtain⟨q,hq⟩:∃q,q=made.length:=⟨_,rfl⟩
   have HQ:=ae hq;rw[<-hq] at Lc;clear hq;obtain⟨G,-,-,-,b3,-⟩:=S8.H.D;rw[<-HQ.out] at b3;have ZO:=ae ((q9 H).alloc ly (N #[U nm] 9));have S9:=ae (S8.aa ZO ly);have RO:=ae (by have h:=S9.ror;rw[<-HQ.out] at h;exact h);have JL:w0.heap.size<=(A H (N #[U nm] 9)).heap.size:=S9.lt;have HG:Hid (∀ZP:M,(A H (N #[U nm] 9)).grownBy ZP (Value.slice ao q co).ownBlock->ZP.heap[hb]?=(A H (N #[U nm] 9)).heap[hb]?/\ZP.heap[w.heap.size]?=(A H (N #[U nm] 9)).heap[w.heap.size]?/\ZP.heap[s]?=(A H (N #[U nm] 9)).heap[s]?):=λZP hg=>by
    have aq:∀(i:Nat) (cs:Array ZC) (t:ZH) (fz:Nat × Nat),(A H (N #[U nm] 9)).heap[i]?=T (Obj.cells cs t fz)->t≠9->ZP.heap[i]?=(A H (N #[U nm] 9)).heap[i]?:=λi cs t fz hi ht=>hg.block i (ai hi) λe=>by obtain⟨_,_,JV,hc⟩:=aj RO i e.symm;exact ht (ar hi hc)
    exact⟨aq _ _ _ _ S9.H (by decide),aq _ _ _ _ ((ZO.block _ (ai B)).trans B) (by decide),aq _ _ _ _ ((ZO.block _ (ai ZJ)).trans ZJ) (by decide)⟩
   have JE:Hid ((A H (N #[U nm] 9)).heap[w.heap.size]?=T (N #[J I 0,U ⟨#[]⟩,Z Y 0 0] 84 (0,0))):=(ZO.block _ (ai B)).trans B;have KM:Hid ((A H (N #[U nm] 9)).heap[s]?=T (N #[J I f,U tx,Z Y 0 0] 84 (0,0))):=(ZO.block _ (ai ZJ)).trans ZJ;have hbw:¬ hb=w.heap.size:=λe=>by have h:=S8.H;unfold ShBox at h;rw[e] at h;exact absurd (ar h B) (by decide)
   have Fd:¬ w.heap.size=hb:=λe=>hbw e.symm;have Kq:¬ hb=s:=λe=>by have h:=S8.H;unfold ShBox at h;rw[e] at h;exact absurd (ar h ZJ) (by decide)
   have Lv:¬ s=hb:=λe=>Kq e.symm
   go_wp2_with (first
    |(at_builtin;refine bD _ rfl (.tmp 100) (.tmp 102) 66 rfl w0.heap.size 9 i1 (U ⟨#[]⟩) 1 16 IH Kw Ks KQ Kb rfl (by decide) (Z ao q co) q (bZ (made.map (·.e))) (by simp[Act.eval]) RO.out (Q H.heap.size 0 Y) 1 1 [U nm] (by simp[Act.eval]) rfl (pd H _ _) (by simp[Value.oneCell']) (by unfold maxLen;omega) (by omega) JL ?_;intro v9 w9 F r la;have O9:=ae F;have G9:=ae r;have Kg:=ae la;have ph:=ae (HG w9 r);obtain⟨g9,c9,Ml,rfl,KT⟩:=F.2.resolve_left (λh=>by omega);clear KT F r la;obtain⟨LL,-,-,-,f3,-,-,-,-,-,ff⟩:=(ShBox.ab S9.H ph.1).D;have LU:=ff 3;obtain⟨rl,r0,r1,r2,ZI⟩:=bu (ph.2.1.trans JE);have KF:=ZI 0;have Kf:=ZI 1;have Kv:=ZI 2;obtain⟨pl,p0,p1,p2,pf⟩:=bu (ph.2.2.trans KM);clear ff ZI pf)
    |fail)
   have Jt:=ae (S9.ord (x:=⟨nm,kd,0,te,0,[]⟩) (w':=w9) (v:=Z (T (Q g9 0 Y)) (q+1) c9) (by rw[<-HQ.out];exact G9) (by rw[<-HQ.out];exact O9) (by rw[<-HQ.out];exact Kg));refine bp (v:=.agg #[J I f,U tx,Z Y 0 0]) (by simp[results,QI,go_sem,r0,r1,r2]) rfl ?_;have JD:=(qh w9 (Q hb 3 Y) (Z (T (Q g9 0 Y)) (q+1) c9) w.heap.size Fd).trans (ph.2.1.trans JE);refine⟨Z (T (Q l 0 Y)) (n+1) Fm,Z (T (Q g9 0 Y)) (q+1) c9,rfl,?_,?_⟩
   ·rw[<-HN.out]
    have x0:=Jt.1;rw[TV] at x0;replace x0:=x0.R JD ⟨by decide,by decide,by decide,by decide⟩ D 0 (J I f);have y0:=ay JD (j:=0) (J I f);have x1:=x0.R y0 ⟨by decide,by decide,by decide,by decide⟩ D 1 (U tx);exact x1.R (ay y0 (j:=1) (U tx)) ⟨by decide,by decide,by decide,by decide⟩ D 2 (Z Y 0 0)
   ·have k0:=(K8.to (KS.u (X:=XN) ZO ly S8.lt)).to Jt.2
    exact((k0.fresh ly D 0 _).fresh ly D 1 _).fresh ly D 2 _
 all_goals
  obtain⟨G,-,-,-,-,b4,b5,b6,b7,b8,bf⟩:=S5.H.D;have Kr:=bf 4;have Mh:=bf 5;have Mc:=bf 6;have Mt:=bf 7;have Md:=bf 8;rw[<-fd.out] at b4;clear bf;go_wp2_with fail;go_loop [9] (λi=>∃j:Nat,j<=ms/\i=J I j) (λi=>ms - (intOf i).toNat);case atStart=>exact⟨0,by omega,rfl⟩
  case' round =>
  obtain⟨j,hj,rfl⟩:=hrel;by_cases hlt:j<ms
  ·obtain⟨y,hy⟩:∃y,making[j]?=T y:=⟨_,gq (by have:=fd.out;omega)⟩
   obtain⟨gs,cs,cus,ev,-⟩:=S5.rst.2.resolve_left (λh=>by have:=fd.out;omega);rw[<-fd.out] at ev;cases ev
   have dj:O.cell? (Q gs j Y)=T (U y):=uS S5.rst hy;have hjm:(j:Int)<(ms:Int):=by omega
   have Ll:=ae (MD j y hy);clear hy;have aq:=Ll.out;go_wp2;exact⟨⟨j+1,by omega,by go_num⟩,by simp[intOf];omega⟩
  obtain rfl:j=ms:=by omega
 ·have hI60:¬ (60:Int)<=(j:Int):=by omega
  clear b5 b6 b7 b8 Mh Mc Mt Md;have A6:=ae ((q9 O).alloc ly (N #[U nm] 9));have P:=ae (S5.aa A6 ly);have RS:=ae (by have h:=P.rst;rw[<-fd.out] at h;exact h);have Ko:w0.heap.size<=(A O (N #[U nm] 9)).heap.size:=P.lt;obtain⟨q0,aa,ca,q1,-⟩:=(JJ.aa P.ao ly).2 tg sm;obtain⟨-,aa',ca',Lg,JW⟩:=JJ.2 tg sm;have JG:=JJ.1;have e1:=(P.ao.cell (p:=(Q tb (Lu+tg*2+1) Y)) JG).trans Lg;rw[q1] at e1;simp only[MU,ML,QR] at e1;obtain⟨rfl,rfl⟩:=e1;have My:=ae JW;have Q1:=ae q1;clear q0 q1 Lg JW;have Km:Hid ((A O (N #[U nm] 9)).heap[w.heap.size]?=T (N #[J I 0,U ⟨#[]⟩,Z Y 0 0] 84 (0,0))):=(A6.block _ (ai qr)).trans qr;have HG:Hid (∀ZP:M,(A O (N #[U nm] 9)).grownBy ZP (Value.slice Lt j Ld).ownBlock->ZP.heap[hb]?=(A O (N #[U nm] 9)).heap[hb]?/\ZP.heap[tb]?=(A O (N #[U nm] 9)).heap[tb]?):=λZP hg=>by
   refine⟨hg.block hb (ai P.H) λe=>?_,hg.block tb (lj JG Ko) λe=>?_⟩;{obtain⟨_,_,JV,hc⟩:=aj RS hb e.symm;exact absurd (ar P.H hc) (by decide)};{have:=(aj RS tb e.symm).1;omega}
  have LZ:w0.heap.size<=hb:=S5.hbB;have htbh:¬ tb=hb:=by omega
  have htbh':¬ hb=tb:=by omega
  have htI:(tg:Int)<(S.n1:Int):=by omega
  go_wp2_with (first
   |(at_builtin;refine bD _ rfl (.tmp 166) (.tmp 168) 66 rfl w0.heap.size 9 i1 (U ⟨#[]⟩) 1 16 IH Kw Ks KQ Kb rfl (by decide) (Z Lt j Ld) j (bZ making) (by simp[Act.eval]) RS.out (Q O.heap.size 0 Y) 1 1 [U nm] (by simp[Act.eval]) rfl (pd O _ _) (by simp[Value.oneCell']) (by unfold maxLen;omega) (by omega) Ko ?_;intro v7 w7 F r la;have O7:=ae F;have G7:=ae r;have Lq:=ae la;have J9:=ae (HG w7 r);obtain⟨g7,c7,cu7,rfl,Mp⟩:=F.2.resolve_left (λh=>by omega);clear Mp F r la;obtain⟨Kh,-,f1,-,-,f4,-,-,-,-,ff⟩:=(ShBox.ab P.H J9.1).D;have MC:=ff 4;rw[Mz.out] at f1;have f9:=(cq (a:=(Q tb (Lu+tg*2+1) Y)) J9.2).trans Q1.out;have Mb:tb<w7.heap.size:=(lj (lj JG LZ) (NK Kh));clear ff)
   |fail)
  have SP:=ae (P.push (nm:=nm) (w':=w7) (v:=Z (T (Q g7 0 Y)) (j+1) c7) (by rw[<-fd.out];exact G7) (by rw[<-fd.out];exact O7) (by rw[<-fd.out];exact Lq));have S7:=ae SP.1;have K7:Hid (KS w0.heap.size XN w (w7.setCell (Q hb 4 Y) (Z (T (Q g7 0 Y)) (j+1) c7))):=(K5.to (KS.u (X:=XN) A6 ly S5.lt)).to SP.2;have ZQ:Hid ((w7.setCell (Q hb 4 Y) (Z (T (Q g7 0 Y)) (j+1) c7)).heap[w.heap.size]?=T (N #[J I 0,U ⟨#[]⟩,Z Y 0 0] 84 (0,0))):=(SP.2.ab _ _ _ _ Km (by decide) (by decide) (by decide) λh=>h).trans Km;clear SP f1 f4 f9 MC Kh Mb O7 G7 Lq J9 HG RS P A6 Km Q1 S5 K5 qr b4 Kr G;generalize World.setCell w7 _ _=W7 at S7 K7 ZQ ⊢;refine(J6 W7 _ _ _ aa ca S7 My).mono ?_;clear J6;rintro e w8 Id;rcases R with ⟨E,x⟩|c|d
  ·obtain⟨L1,md1,Mw,st1,gx,cx,rfl,JC,ur,JX,Lx,KC,mv⟩:=Id;obtain⟨LG,Kz⟩:=Lf.out E x rfl;clear Lf;obtain⟨f,DE⟩:∃f,f=x.1.B:=⟨_,rfl⟩
   obtain⟨rt,KJ⟩:∃rt,rt=x.1.h:=⟨_,rfl⟩
   obtain⟨ls,JY⟩:∃ls,ls=x.2:=⟨_,rfl⟩
   obtain⟨ln,JM⟩:∃ln,ln=ls.length:=⟨_,rfl⟩
   have Kj:mW nm tg (.inl (E,x))=.inl ((E++[⟨nm,3,f,rt,tg,ls⟩]),⟨nm,3,f,rt,tg,ls⟩):=by rw[DE,KJ,JY];rfl
   have LB:=ae Kj;rw[<-JY,<-JM] at JX;rw[<-DE,<-KJ,<-JY,<-JM];clear Kj DE KJ JY;have LD:=ae JM;clear JM;obtain⟨m1,Bk,DH⟩:=KC.nam n (gv nm) bt;replace DH:m1.e=nm:=DH;have Mo:Hid (m1.done=ZA):=by
    obtain⟨m2,J4,e2,e3⟩:=ur.mkg nm (PM _ (nL.2 rfl));obtain⟨i2,J7⟩:=PT J4;have e4:=xM ur.nod J7 Bk (e2.trans DH.symm);rw[e4,Bk] at J7;cases J7
    exact e3
   have bt:=ae Bk;obtain⟨ZN,hN⟩:∃ZN,ZN=L1.length:=⟨_,rfl⟩
   have dg:L1.length=ZN:=hN.symm;have hnN:n<ZN:=by rw[hN];exact(p6.1 Bk).1
   obtain⟨g,Jw,cum,rfl,-⟩:=JC.W.2.resolve_left (λh=>by omega);obtain⟨gp,ZM,cup,rfl,Lp⟩:=JC.rst.2.resolve_left (λh=>by rw[cM,DW] at h;omega);have hcp:j+1<=ZM:=by have:=Lp.2.2.1;rw[cM,DW,<-fd.out] at this;exact this
   rw[dg,cM,DW,<-fd.out] at JC;have KW:=ae (K7.to mv);have B:Hid (w8.heap[w.heap.size]?=T (N #[J I 0,U ⟨#[]⟩,Z Y 0 0] 84 (0,0))):=(mv.ab _ _ _ _ ZQ (by decide) (by decide) (by decide) λh=>h).trans ZQ;have Ku:w.heap.size<=W7.heap.size:=K7.aa.size;have X8:=ae (((LExt.add w.heap.size L (m:=gv nm) rfl).trans KC Ku));have Ms:Hid (w.heap.size<=gx):=p9 Ku (aj JX gx rfl).1;have Mi:=ae (aC JX (p9 D Ku));have Ly:=ae ur;have hw8:w.heap.size<=w8.heap.size:=KW.aa.size;have Kn:=ae JC;have Ke:=ae DH;have LH:=ae Kz;clear JC ur JX Lx KC mv DH Bk Kz Lp S7 K7 ZQ hN;have ZO:=ae ((q9 w8).alloc ly (N #[J I f,U rt,Z Y 0 0] 84));have ZK:Hid ((A w8 (N #[J I f,U rt,Z Y 0 0] 84)).heap[w8.heap.size]?=T (N #[J I f,U rt,Z Y 0 0] 84 (0,0))):=n6 _ _;have JQ:=ae (Kn.aa ZO ly);have K9:=ae (KS.u (X:=XN) ZO ly Kn.lt);have JO:Hid ((A w8 (N #[J I f,U rt,Z Y 0 0] 84)).heap[w.heap.size]?=T (N #[J I 0,U ⟨#[]⟩,Z Y 0 0] 84 (0,0))):=(ZO.block _ (ai B)).trans B;go_upto_region 30 with fail;generalize World.alloc w8 _=W9 at ZO ZK JQ K9 JO ⊢;obtain⟨s,Jz⟩:∃s,s=w8.heap.size:=⟨_,rfl⟩
   rw[<-Jz] at ZK ⊢;have LP:w.heap.size<=s:=by omega
   clear Jz ZO Kn B;obtain⟨G,-,-,-,-,b4,-,-,-,b8,bf⟩:=JQ.H.D;have Kr:=bf 4;clear bf;go_upto_region 32 with fail;have Mg:IntKind.i64.wrap (j:Int)=(j:Int):=Ja (by omega) (by omega);have Mq:(0:Int)<=(j:Int):=by omega
   have Mm:(j:Int)<=(ZM:Int):=by omega
   refine aE (λV=>V.cell? (Q hb 4 Y)=T (Z (T (Q gp 0 Y)) (j+1) ZM)) 14 (by kernel_rfl) ?_;have HS:Hid (W9.drew.cell? (Q hb 4 Y)=T (Z (T (Q gp 0 Y)) (j+1) ZM)):=b4;iterate 10
    refine aI 0 (v:=?_) rfl rfl (by kernel_rfl) (λ_ _ _ h=>h) rfl ?_ HS ?_;rotate_left
    ·(intro wz s0;go_simp)
     (try with_reducible rfl)
    (try simp only[Act.put,nzL])
   refine kf (i:=10) (v:=J I (j:Int)) rfl (by kernel_rfl) (by kernel_rfl) (by kernel_rfl) (by kernel_rfl) (λ_ _ _ h=>h) rfl ?_ HS ?_;{intro wz s0;go_simp}
   (try simp only[Act.put,nzL])
   refine kf (i:=11) (v:=Z (T (Q gp 0 Y)) j ZM) rfl (by kernel_rfl) (by kernel_rfl) (by kernel_rfl) (by kernel_rfl) (λ_ _ _ h=>h) rfl ?_ HS ?_;{intro wz s0;go_simp}
   (try simp only[Act.put,nzL])
   iterate 2
    refine cB 12 rfl rfl (by kernel_rfl) λK hK=>?_;go_simp;refine hK _ _ (λ_=>HS) ?_;clear hK K
    (try simp only[Act.put,nzL])
   have PP:Hid (SI w0 hb (Z a0 S.n0 c0) (Z a1 S.n1 c1) (W9.setCell (Q hb 4 Y) (Z (T (Q gp 0 Y)) j ZM)) making E L1 (Z (T (Q g 0 Y)) ZN Jw) Mw (Z (T (Q gp 0 Y)) j ZM)/\KS w0.heap.size XN W9 (W9.setCell (Q hb 4 Y) (Z (T (Q gp 0 Y)) j ZM))):=by have h:=JQ.out;rw[fd.out] at h ⊢;exact h.pop
   refine ag (i:=14) rfl (by kernel_rfl) λK hK=>?_;go_simp;refine hK _ _ (λh=>absurd rfl h) ?_;clear hK K HS b4 Kr b8
   (try simp only[Act.put])
   refine aW (by kernel_rfl) ?_ _;have D6:Hid (Below (W9.setCell (Q hb 4 Y) (Z (T (Q gp 0 Y)) j ZM)).heap.size (W9.setCell (Q hb 4 Y) (Z (T (Q gp 0 Y)) j ZM)) (W9.setCell (Q hb 4 Y) (Z (T (Q gp 0 Y)) j ZM)).drew):=br.drew;have P:=ae (PP.1.aa D6 ly);have K6:=ae ((K9.to PP.2).to (KS.u (X:=XN) D6 ly PP.1.lt));have ro:Hid ((W9.setCell (Q hb 4 Y) (Z (T (Q gp 0 Y)) j ZM)).drew.heap[w.heap.size]?=T (N #[J I 0,U ⟨#[]⟩,Z Y 0 0] 84 (0,0))):=(PP.2.ab _ _ _ _ JO (by decide) (by decide) (by decide) λh=>h).trans JO;have J5:Hid ((W9.setCell (Q hb 4 Y) (Z (T (Q gp 0 Y)) j ZM)).drew.heap[s]?=T (N #[J I f,U rt,Z Y 0 0] 84 (0,0))):=(PP.2.ab _ _ _ _ ZK (by decide) (by decide) (by decide) λh=>h).trans ZK;clear PP D6 JQ K9 JO ZK Mg Mq Mm G;generalize World.drew (World.setCell W9 _ _)=ZR at P K6 ro J5 ⊢;have ZK:=ae J5.out;clear J5;go_upto_region 33 with fail;obtain⟨G,-,-,b2,-⟩:=P.H.D;obtain⟨rl,r0,r1,r2,-⟩:=bu ZK;obtain⟨LF,Lw,JV,DS⟩:=aj P.W g rfl;have DQ:=ae DS;have R6:Hid (ZR.ownsRow w0.heap.size 179 6 (Z (T (Q g 0 Y)) ZN Jw) ZN (L1.flatMap smV)):=by have h:=P.W;rw[dg] at h;exact h
   have q1:ZR.cell? (Q g (n*6+1) Y)=T (J I m1.B):=cC (by rw[dg];exact R6) bt 1 (by omega) rfl;have q2:ZR.cell? (Q g (n*6+1+1) Y)=T (U m1.h):=cC (by rw[dg];exact R6) bt 2 (by omega) rfl;have q3:ZR.cell? (Q g (n*6+1+2) Y)=T (Z Y 0 0):=cC (by rw[dg];exact R6) bt 3 (by omega) rfl;have qf:∀j,ZR.frozen? (Q g j Y)=ZA:=λj=>by simp[World.frozen?,DS]
   have KH:=qf (n*6+1);have KP:=qf (n*6+1+1);have Kx:=qf (n*6+1+2);clear qf DS;have LX:(n:Int)<(ZN:Int):=by omega
   have ld:g≠hb:=by intro e;have h:=DQ.out;rw[e] at h;exact absurd (ar h P.H) (by decide)
   have o:g≠s:=by intro e;have h:=DQ.out;rw[e] at h;exact absurd (ar h ZK) (by decide)
   refine wp_region_held_drew (S:=λV=>V.cell? (Q hb 2 Y)=T (Z (T (Q g 0 Y)) ZN Jw)/\V.cell? (Q s 0 Y)=T (J I f)/\V.cell? (Q s 1 Y)=T (U rt)/\V.cell? (Q s 2 Y)=T (Z Y 0 0)) (by kernel_rfl) ⟨b2,r0,r1,r2⟩ λhS=>?_;have HS:=ae hS;clear hS;iterate 8
    first|refine cK 0 (v:=?_) rfl rfl (by kernel_rfl) (λ_ _ _ h=>h) rfl ?_ HS ?_|refine cK 4 (v:=?_) rfl rfl (by kernel_rfl) (λ_ _ _ h=>h) rfl ?_ HS ?_
    rotate_left
    ·(rintro wz ⟨s0,s1,s2,s3⟩;go_simp)
     (try with_reducible rfl)
    (try simp only[Act.put,nzL])
   have TL:=ae (P.told dg bt Mo f rt);have JB:Hid ((((ZR.setCell (Q g (n*6+1) Y) (J I f)).setCell (Q g (n*6+1+1) Y) (U rt)).setCell (Q g (n*6+1+2) Y) (Z Y 0 0)).drew.cell? (Q hb 2 Y)=T (Z (T (Q g 0 Y)) ZN Jw)/\(((ZR.setCell (Q g (n*6+1) Y) (J I f)).setCell (Q g (n*6+1+1) Y) (U rt)).setCell (Q g (n*6+1+2) Y) (Z Y 0 0)).drew.cell? (Q s 0 Y)=T (J I f)/\(((ZR.setCell (Q g (n*6+1) Y) (J I f)).setCell (Q g (n*6+1+1) Y) (U rt)).setCell (Q g (n*6+1+2) Y) (Z Y 0 0)).drew.cell? (Q s 1 Y)=T (U rt)/\(((ZR.setCell (Q g (n*6+1) Y) (J I f)).setCell (Q g (n*6+1+1) Y) (U rt)).setCell (Q g (n*6+1+2) Y) (Z Y 0 0)).drew.cell? (Q s 2 Y)=T (Z Y 0 0)) :=
    ⟨(cell_far _ _ _ _ ld).trans ((cell_far _ _ _ _ ld).trans ((cell_far _ _ _ _ ld).trans b2)),(cell_far _ _ _ _ o).trans ((cell_far _ _ _ _ o).trans ((cell_far _ _ _ _ o).trans r0)),(cell_far _ _ _ _ o).trans ((cell_far _ _ _ _ o).trans ((cell_far _ _ _ _ o).trans r1)),(cell_far _ _ _ _ o).trans ((cell_far _ _ _ _ o).trans ((cell_far _ _ _ _ o).trans r2))⟩
   refine bB (i:=8) rfl (by kernel_rfl) λK hK=>?_;go_simp;refine hK _ _ JB ?_;clear hK K HS q1 q2 q3 KH KP Kx b2 r0 r1 r2 rl
   (try simp only[Act.put])
   refine wpAnyH_done (by kernel_rfl) ?_ _;have D7:Hid (Below (((ZR.setCell (Q g (n*6+1) Y) (J I f)).setCell (Q g (n*6+1+1) Y) (U rt)).setCell (Q g (n*6+1+2) Y) (Z Y 0 0)).heap.size (((ZR.setCell (Q g (n*6+1) Y) (J I f)).setCell (Q g (n*6+1+1) Y) (U rt)).setCell (Q g (n*6+1+2) Y) (Z Y 0 0)) (((ZR.setCell (Q g (n*6+1) Y) (J I f)).setCell (Q g (n*6+1+1) Y) (U rt)).setCell (Q g (n*6+1+2) Y) (Z Y 0 0)).drew):=br.drew;have S7:=ae (TL.1.aa D7 ly);have K7:=ae (K6.to (TL.2.1.to (KS.u (X:=XN) D7 ly TL.1.lt)));have Jy:=TL.2.2.1;have Js:=TL.2.2.2;have ZQ:Hid ((((ZR.setCell (Q g (n*6+1) Y) (J I f)).setCell (Q g (n*6+1+1) Y) (U rt)).setCell (Q g (n*6+1+2) Y) (Z Y 0 0)).drew.heap[w.heap.size]?=T (N #[J I 0,U ⟨#[]⟩,Z Y 0 0] 84 (0,0))):=by have ZL:=(TL.2.1.ab _ _ _ _ ro (by decide) (by decide) (by decide) λh=>h).trans ro;exact ZL
   have n9:Hid ((((ZR.setCell (Q g (n*6+1) Y) (J I f)).setCell (Q g (n*6+1+1) Y) (U rt)).setCell (Q g (n*6+1+2) Y) (Z Y 0 0)).drew.heap[s]?=T (N #[J I f,U rt,Z Y 0 0] 84 (0,0))):=by have ZL:=(TL.2.1.ab _ _ _ _ ZK (by decide) (by decide) (by decide) λh=>h).trans ZK;exact ZL
   have GS:=ae Jy;have Fk:=ae Js;clear TL JB Jy Js ro ZK K6 P R6 DQ D7;generalize World.drew (World.setCell (World.setCell (World.setCell ZR _ _) _ _) _ _)=W7 at S7 K7 ZQ n9 ⊢;have OS:=ae Mi.out;obtain⟨G,-,-,b2,-⟩:=S7.H.D;obtain⟨JR,JZ,KX,th⟩:=aj S7.W g rfl;have q4:W7.cell? (Q g (n*6+4) Y)=T m1.sv:=cC (by have h:=S7.W;rw[Fk.out] at h ⊢;exact h) GS 4 (by omega) rfl;have Mf:W7.frozen? (Q g (n*6+4) Y)=ZA:=by simp[World.frozen?,th]
   have TD:=ae (S7.upd' Fk GS (j:=4) (by omega) (u:=Z (T (Q gx 0 Y)) ln cx) (m':=⟨m1.e,f,rt,ls,Z (T (Q gx 0 Y)) ln cx,ZA⟩) rfl (λh=>by cases h));have Jr:Hid ((W7.setCell (Q g (n*6+4) Y) (Z (T (Q gx 0 Y)) ln cx)).heap[w.heap.size]?=T (N #[J I 0,U ⟨#[]⟩,Z Y 0 0] 84 (0,0))):=(TD.2.1.ab _ _ _ _ ZQ (by decide) (by decide) (by decide) λh=>h).trans ZQ;have Jp:Hid ((W7.setCell (Q g (n*6+4) Y) (Z (T (Q gx 0 Y)) ln cx)).heap[s]?=T (N #[J I f,U rt,Z Y 0 0] 84 (0,0))):=(TD.2.1.ab _ _ _ _ n9 (by decide) (by decide) (by decide) λh=>h).trans n9;have Fn:=ae TD.1;have JT:=ae (K7.to TD.2.1);have KB:=ae TD.2.2.1;have Kl:=ae TD.2.2.2;clear th;go_upto_region 35 with fail;clear b2 q4 Mf TD S7 K7 ZQ n9 GS Fk;generalize World.setCell W7 _ _=Jv at Fn JT Jr Jp ⊢;have Ma:=ae (Iu OS JT);obtain⟨G,-,-,b2,-⟩:=Fn.H.D;obtain⟨JR,JZ,KX,th⟩:=aj Fn.W g rfl;have q5:Jv.cell? (Q g (n*6+5) Y)=T (ZD ZA):=cC (by have h:=Fn.W;rw[Kl.out] at h ⊢;exact h) KB 5 (by omega) rfl;have Kc:Jv.frozen? (Q g (n*6+5) Y)=ZA:=by simp[World.frozen?,th]
   have TD:=ae (Fn.upd' Kl KB (j:=5) (by omega) (u:=ZD ZG) (m':=⟨m1.e,f,rt,ls,Z (T (Q gx 0 Y)) ln cx,ZG⟩) rfl (λ_=>(by rw[<-LD.out];exact Ma)));have B:Hid ((Jv.setCell (Q g (n*6+5) Y) (ZD ZG)).heap[w.heap.size]?=T (N #[J I 0,U ⟨#[]⟩,Z Y 0 0] 84 (0,0))):=(TD.2.1.ab _ _ _ _ Jr (by decide) (by decide) (by decide) λh=>h).trans Jr;have ZJ:Hid ((Jv.setCell (Q g (n*6+5) Y) (ZD ZG)).heap[s]?=T (N #[J I f,U rt,Z Y 0 0] 84 (0,0))):=(TD.2.1.ab _ _ _ _ Jp (by decide) (by decide) (by decide) λh=>h).trans Jp;have S8:=ae TD.1;have K8:=ae (JT.to TD.2.1);clear th;go_upto_region 36 with fail;clear b2 q5 Kc TD Fn JT Jr Jp;generalize World.setCell Jv _ _=H at S8 K8 B ZJ ⊢;obtain⟨ao,co,rfl⟩:=jU S8.ror;obtain⟨q,hq⟩:∃q,q=E.length:=⟨_,rfl⟩
   have HQ:=ae hq;rw[<-hq] at LG;clear hq;obtain⟨G,-,-,-,b3,-⟩:=S8.H.D;rw[<-HQ.out] at b3;have ZO:=ae ((q9 H).alloc ly (N #[U nm] 9));have S9:=ae (S8.aa ZO ly);have RO:Hid ((A H (N #[U nm] 9)).ownsRow w0.heap.size 9 1 (Z ao q co) q (bZ (E.map (·.e)))):=by have h:=S9.ror;rw[<-HQ.out] at h;exact h
   have JL:w0.heap.size<=(A H (N #[U nm] 9)).heap.size:=S9.lt;have HG:Hid (∀ZP:M,(A H (N #[U nm] 9)).grownBy ZP (Value.slice ao q co).ownBlock->ZP.heap[hb]?=(A H (N #[U nm] 9)).heap[hb]?/\ZP.heap[w.heap.size]?=(A H (N #[U nm] 9)).heap[w.heap.size]?/\ZP.heap[s]?=(A H (N #[U nm] 9)).heap[s]?):=λZP hg=>by
    have aq:∀(i:Nat) (cs:Array ZC) (t:ZH) (fz:Nat × Nat),(A H (N #[U nm] 9)).heap[i]?=T (Obj.cells cs t fz)->t≠9->ZP.heap[i]?=(A H (N #[U nm] 9)).heap[i]?:=λi cs t fz hi ht=>hg.block i (ai hi) λe=>by obtain⟨_,_,JV,hc⟩:=aj RO i e.symm;exact ht (ar hi hc)
    exact⟨aq _ _ _ _ S9.H (by decide),aq _ _ _ _ ((ZO.block _ (ai B)).trans B) (by decide),aq _ _ _ _ ((ZO.block _ (ai ZJ)).trans ZJ) (by decide)⟩
   have JE:Hid ((A H (N #[U nm] 9)).heap[w.heap.size]?=T (N #[J I 0,U ⟨#[]⟩,Z Y 0 0] 84 (0,0))):=(ZO.block _ (ai B)).trans B;have KM:Hid ((A H (N #[U nm] 9)).heap[s]?=T (N #[J I f,U rt,Z Y 0 0] 84 (0,0))):=(ZO.block _ (ai ZJ)).trans ZJ;have hbw:¬ hb=w.heap.size:=λe=>by have h:=S8.H;unfold ShBox at h;rw[e] at h;exact absurd (ar h B) (by decide)
   have Fd:¬ w.heap.size=hb:=λe=>hbw e.symm;have Kq:¬ hb=s:=λe=>by have h:=S8.H;unfold ShBox at h;rw[e] at h;exact absurd (ar h ZJ) (by decide)
   have Lv:¬ s=hb:=λe=>Kq e.symm
   go_wp2_with (first
    |(at_builtin;refine bD _ rfl (.tmp 235) (.tmp 237) 66 rfl w0.heap.size 9 i1 (U ⟨#[]⟩) 1 16 IH Kw Ks KQ Kb rfl (by decide) (Z ao q co) q (bZ (E.map (·.e))) (by simp[Act.eval]) RO.out (Q H.heap.size 0 Y) 1 1 [U nm] (by simp[Act.eval]) rfl (pd H _ _) (by simp[Value.oneCell']) (by unfold maxLen;omega) (by omega) JL ?_;intro v9 w9 F r la;have O9:=ae F;have G9:=ae r;have Kg:=ae la;have ph:=ae (HG w9 r);obtain⟨g9,c9,Ml,rfl,KT⟩:=F.2.resolve_left (λh=>by omega);clear KT F r la;obtain⟨LL,-,-,-,f3,-,-,-,-,-,ff⟩:=(ShBox.ab S9.H ph.1).D;have LU:=ff 3;obtain⟨rl,r0,r1,r2,ZI⟩:=bu (ph.2.1.trans JE);have KF:=ZI 0;have Kf:=ZI 1;have Kv:=ZI 2;obtain⟨pl,p0,p1,p2,pf⟩:=bu (ph.2.2.trans KM);clear ff ZI pf)
    |fail)
   have Jt:=ae (S9.ord (x:=⟨nm,3,f,rt,tg,ls⟩) (w':=w9) (v:=Z (T (Q g9 0 Y)) (q+1) c9) (by rw[<-HQ.out];exact G9) (by rw[<-HQ.out];exact O9) (by rw[<-HQ.out];exact Kg));refine bp (v:=.agg #[J I f,U rt,Z Y 0 0]) (by simp[results,QI,go_sem,r0,r1,r2]) rfl ?_;have JD:=(qh w9 (Q hb 3 Y) (Z (T (Q g9 0 Y)) (q+1) c9) w.heap.size Fd).trans (ph.2.1.trans JE);rw[LB.out];refine⟨L1.set n ⟨m1.e,f,rt,ls,Z (T (Q gx 0 Y)) ln cx,ZG⟩,Z (T (Q g 0 Y)) ZN Jw,Z (T (Q g9 0 Y)) (q+1) c9,Z (T (Q gp 0 Y)) j ZM,rfl,?_,xN Ly bt Ke Ke rfl rfl rfl rfl rfl LH HI,X8.set bt rfl (λk e=>by cases e;exact Ms),?_⟩;{have x0:=Jt.1;rw[TV,TV] at x0;replace x0:=x0.R JD ⟨by decide,by decide,by decide,by decide⟩ D 0 (J I f);have y0:=ay JD (j:=0) (J I f);have x1:=x0.R y0 ⟨by decide,by decide,by decide,by decide⟩ D 1 (U rt);exact x1.R (ay y0 (j:=1) (U rt)) ⟨by decide,by decide,by decide,by decide⟩ D 2 (Z Y 0 0)};{have k0:=((KW.to K8).to (KS.u (X:=XN) ZO ly S8.lt)).to Jt.2;exact((k0.fresh ly D 0 _).fresh ly D 1 _).fresh ly D 2 _}
  focus
   obtain⟨a,k,sv,rfl,⟨s0,s1,Mj,Mn,LQ,Hx,Jq⟩,mv⟩:=Id
  rotate_left;focus
   obtain⟨sv,rfl,⟨s0,s1,Mj,Mn,LQ,Hx,Jq⟩,mv⟩:=Id
  all_goals
   unfold ji;first|unfold jr|unfold js
   dsimp only;go_upto_region 30 with fail;generalize hW:World.alloc w8 _=W9;obtain⟨ZO,-,-⟩:=nb1 hW;have K8:=ae ((K7.to mv).to (KS.u (X:=XN) ZO ly (p9 D (K7.to mv).aa.size)));have Kd:=ae (ShBox.ab Hx (ZO.block _ (ai Hx)));have Lr:=ae (own_below Jq ZO ly);have B:Hid (W9.heap[w.heap.size]?=T (N #[J I 0,U ⟨#[]⟩,Z Y 0 0] 84 (0,0))):=by have ZL:=(mv.ab _ _ _ _ ZQ (by decide) (by decide) (by decide) λh=>h).trans ZQ;exact(ZO.block _ (ai ZL)).trans ZL
   clear mv Hx Jq ZO hW;obtain⟨G,-,-,-,-,-,b5,b6,b7,b8,-⟩:=Kd.D;have hbw:¬ hb=w.heap.size:=λe=>by have h:=Kd.out;unfold ShBox at h;rw[e] at h;exact absurd (ar h B) (by decide)
   have Fd:¬ w.heap.size=hb:=λe=>hbw e.symm;obtain⟨rl,r0,r1,r2,ZI⟩:=bu B;have KF:=ZI 0;have Kf:=ZI 1;have Kv:=ZI 2;clear ZI;first|simp only[jr] at b5 b6 b7|simp only[js] at b5 b6 b7
   go_wp2_with fail;have Kt:=It Lr.out B.out (by decide);first|refine bp (v:=.agg #[J I 6,U ⟨#[]⟩,Z a c.length k]) (by simp[results,QI,go_sem,r0,r1,r2]) rfl ⟨a,k,rfl,?_⟩|refine bp (v:=.agg #[J I 7,U d,Z Y 0 0]) (by simp[results,QI,go_sem,r0,r1,r2]) rfl ⟨rfl,?_⟩
   refine⟨⟨_,_,_,_,_,(qh _ _ _ _ hbw).trans ((qh _ _ _ _ hbw).trans ((qh _ _ _ _ hbw).trans Kd)),?_⟩,?_⟩
   ·exact aB (aB (aB Lr Kt _ _) Kt _ _) Kt _ _
   ·exact((K8.fresh ly D 0 _).fresh ly D 1 _).fresh ly D 2 _
 ·have KU:j=60:=JF;subst KU;have hbw:¬ hb=w.heap.size:=λe=>by have h:=S5.H;unfold ShBox at h;rw[e] at h;exact absurd (ar h qr) (by decide)
  have Fd:¬ w.heap.size=hb:=λe=>hbw e.symm;obtain⟨rl,r0,r1,r2,ZI⟩:=bu qr;have KF:=ZI 0;have Kf:=ZI 1;have Kv:=ZI 2;clear ZI;go_wp2_with fail;refine bp (v:=.agg #[J I 7,U nm,Z Y 0 0]) (by simp[results,QI,go_sem,r0,r1,r2]) rfl ?_;have Lo:=ay S5.H (j:=8) (ZD ZG);have Lh:=ay Lo (j:=5) (J I 7);have Le:=ay Lh (j:=6) (U nm);have Mx:=ay Le (j:=7) (Z Y 0 0);have JP:w0.heap.size<=hb:=S5.hbB;have k8:=(((K5.to (KS.setCell (X:=XN) _ JP (.inr λcs t fz hc=>.inr (.inr (ar hc S5.H))) (ZD ZG) (j:=8))).to (KS.setCell (X:=XN) _ JP (.inr λcs t fz hc=>.inr (.inr (ar hc Lo))) (J I 7) (j:=5))).to (KS.setCell (X:=XN) _ JP (.inr λcs t fz hc=>.inr (.inr (ar hc Lh))) (U nm) (j:=6))).to (KS.setCell (X:=XN) _ JP (.inr λcs t fz hc=>.inr (.inr (ar hc Le))) (Z Y 0 0) (j:=7));refine⟨rfl,⟨_,_,_,_,_,(qh _ _ _ _ hbw).trans ((qh _ _ _ _ hbw).trans ((qh _ _ _ _ hbw).trans Mx)),⟨rfl,.inl ⟨rfl,rfl⟩⟩⟩,?_⟩;exact((k8.fresh ly D 0 _).fresh ly D 1 _).fresh ly D 2 _
end
section
variable {w0:M}{S:Spc}{a0 a1:Option Addr}{c0 c1 hb:Nat}
theorem uT{L:List SM}{making:List ByteArray}{made:List Ent}(h:fB L making made)(b:∀m∈L,m.e≠nm)(p:cJ made nm=Y)(h1:atL making nm=Y)(f:m'.e=nm)(i:m'.done=ZG)(g:x.e=nm)(q:m'.B=(dP x).B)(o:m'.h=(dP x).h)(l:m'.c=x.looks)(r:m'.sv=Z Y 0 0)(n:Nat):fB ((L++[gv nm]).set L.length m') making (made++[x])/\LExt n L ((L++[gv nm]).set L.length m'):=by
 have c:(L++[gv nm])[L.length]?=T (gv nm):=by rw[I5 ly,Nat.sub_self];rfl
 refine⟨xN (sf h b (m:=gv nm) rfl rfl) c rfl f g i q o l (gZ p) h1,(LExt.add n L (m:=gv nm) rfl).set c f λj e=>?_⟩;rw[r] at e;cases e
theorem EY (C:o7 w0 S a0 a1):∀n,nf w0 S hb (Z a0 S.n0 c0) (Z a1 S.n1 c1) n:=by
 have s:∀n,(∀m,n=m+1->nf w0 S hb (Z a0 S.n0 c0) (Z a1 S.n1 c1) m)->nf w0 S hb (Z a0 S.n0 c0) (Z a1 S.n1 c1) n:=by
  intro n y making made L md or st w nm D h hrel F c u hn;have hmade:made.length<=50000:=by unfold eZ at c;omega
  have b:L.length<=100000:=by have:=hrel.len;omega
  rw[El];unfold fQ;cases h0:cJ made nm with
  |some e =>obtain⟨k,m,f1,ZR,z,B,G⟩:=Ha hrel h0;refine(EW w nm h b k m f1 ZR z).mono ?_;rintro r w' ⟨rfl,l,o⟩;exact⟨L,md,or,st,by rw[B,G],l,hrel,LExt.refl _ _,o⟩
  |none =>
   cases h1:atL making nm with
   |some i =>
    obtain⟨k,m,f1,ZR,z,B⟩:=Hb hrel h1;have E:=u nm B;cases h2:atI (nm1 S.f1) S.n1 nm with
    |none=>rw[h2] at E;cases E
    |some tg=>exact wD C w nm h b (by omega) k m f1 ZR z tg i h2 h1
   |none =>
    obtain⟨p,q⟩:=BU hrel h0 h1;dsimp only;unfold jO;cases h2:atI (nm0 S.f0) S.n0 nm with
    |some i =>refine(mh.1 C w nm h b (by omega) p (oq C.ok h2) 0 (S.f0 i).h (.inr ⟨i,h2,rfl,rfl⟩) 1 (S.f0 i).h).mono ?_;rintro r w' ⟨f,j,rfl,l,o⟩;have g:=uT hrel q h0 h1 (m':=⟨nm,0,(S.f0 i).h,[],Z Y 0 0,ZG⟩) (x:=⟨nm,1,0,(S.f0 i).h,0,[]⟩) rfl rfl rfl rfl rfl rfl rfl w.heap.size;exact⟨_,f,j,st,rfl,l,g.1,g.2,o⟩
    |none =>
     cases h3:atI (nm1 S.f1) S.n1 nm with
     |some t =>
      cases n with
      |zero=>exact mh.2 C w nm h b p h1 t h3 _ (.inl ⟨by omega,rfl⟩)
      |succ m=>exact mh.2 C w nm h b p h1 t h3 _ (.inr ⟨m,D,y m rfl,hrel,F,c,u,h0,rfl⟩)
     |none =>refine(mh.1 C w nm h b (by omega) p h3 4 nm (.inl ⟨h2,rfl,rfl⟩) 2 ⟨#[]⟩).mono ?_;rintro r w' ⟨f,j,rfl,l,o⟩;have g:=uT hrel q h0 h1 (m':=⟨nm,4,nm,[],Z Y 0 0,ZG⟩) (x:=⟨nm,2,0,⟨#[]⟩,0,[]⟩) rfl rfl rfl rfl rfl rfl rfl w.heap.size;exact⟨_,f,j,st,rfl,l,g.1,g.2,o⟩
 intro n;induction n with
 |zero=>exact s 0 λm e=>by omega
 |succ n H=>exact s (n+1) λm e=>by cases e;exact H
end
