import Derived.Test.YtpmnbjkjpnclaaaGreatDoorKJ
import Derived.WalkSmall
set_option maxRecDepth 1000000
set_option maxHeartbeats 16000000
set_option linter.unusedSimpArgs false
open Go renaming Addr.mk->N,Value.slice->Y,Value.string->U,Value.int->Q,Value.bool->ZC,Value.agg->ZG,Obj.cells->J,IntKind.i64->I,World->M,Value->ZB,TypeId->ZH,Ending.returned->ZD,World.heap->A,World.alloc->B,Proofs.Tryz.prog->Pg
open Option renaming none->Z,some->T
open Bool renaming false->ZA,true->ZF
open Array renaming size->z
namespace Go.Proofs.YtpmnbjkjpnclaaaGreatDoor.Vp
open Tryz RowKit
variable {m f m':SM}{w:M}{n g cap b j i size ZT ZM:Nat}{nm:ByteArray}{L:List SM}{e:ZH}{x:Ent}{u:ZB}
theorem tu:∀(L:List SM) (k j:Nat) (m b:SM) (u:ZB),L[k]?=T m->j<6->smV b=(smV m).set j u->(L.flatMap smV).set (k*6+j) u=(L.set k b).flatMap smV
 |[],k,j,m,b,u,h,_,_=>by simp at h
 |a::L,0,j,m,b,u,h,hj,he=>by simp only[List.getElem?_cons_zero,JE] at h;subst h;simp only[JZ,List.set_cons_zero,OU,JC];rw[RJ _ _ (by rw[mc];exact hj),he]
 |a::L,k+1,j,m,b,u,h,hj,he=>by simp only[PU] at h;simp only[JZ,PL];rw[NS _ _ (by rw[mc];omega),mc,show(k+1)*6+j - 6=k*6+j by omega,tu L k j m b u h hj he]
theorem xt{l:List ZB}(h:w.ownsRow b e size (Y (T (N g 0 Z)) n cap) n l)(u:ZB):(w.setCell (N g j Z) u).ownsRow b e size (Y (T (N g 0 Z)) n cap) n (l.set j u):=by
 refine⟨by rw[JN];exact h.1,?_⟩;rcases h.2 with ⟨f,h0⟩|⟨g',cap',i,f,hb,p,h1,h2,o,m⟩
 {simp at f};{simp only[JG,JE,MK] at f;obtain⟨⟨rfl,-⟩,-,rfl⟩:=f;refine .inr ⟨g,cap,i.setIfInBounds j u,rfl,hb,au p u,h1,h2,by simpa using o,?_⟩;rw[MP,T1,m]}
section
variable {w0 w w':M}{hb:Nat}{s0 s1 md or st:ZB}{making:List ByteArray}{made:List Ent}{L:List SM}
theorem SI.upd{k:Nat}(h:SI w0 hb s0 s1 w making made L (Y (T (N g 0 Z)) L.length cap) or st)(E:L[k]?=T m)(G:j<6)(D:smV f=(smV m).set j u)(H:f.done=ZF->w.ownsRow (z (A w0)) 201 3 f.sv f.V.length (dJ f.V)):SI w0 hb s0 s1 (w.setCell (N g (k*6+j) Z) u) making made (L.set k f) (Y (T (N g 0 Z)) (L.set k f).length cap) or st/\KS (z (A w0)) XN w (w.setCell (N g (k*6+j) Z) u):=by
 obtain⟨l,hgl,cs,p⟩:=af h.W g rfl
 have b:∀{size n:Nat} {o:ZH} {y:ZB} {C:List ZB},w.ownsRow (z (A w0)) o size y n C->198≠o->(w.setCell (N g (k*6+j) Z) u).ownsRow (z (A w0)) o size y n C:=λr s=>ay r (λe=>by
  obtain⟨_,_,ZR,i⟩:=af r g e
  exact s (ah p i)) _ _
 have ZT:(L.set k f).length=L.length:=JN;refine⟨⟨h.X.setCell l u,h.hbB,?_,?_,b h.ror (by decide),b h.rst (by decide),h.apart,λx q ZS=>?_⟩,KS.setCell w l (.inr λZR t fz i=>.inr (.inl (ah i p))) u⟩
 ·rw[ZT]
  exact h.ab.ad (qh _ _ _ _ λe=>by
   have ZP:hb=g:=e
   exact absurd (ah h.ab (ZP ▸ p)) (by decide))
 {rw[ZT,<-tu L k j m f u E G D];exact xt h.W u};{rcases J5 q with q|rfl;{exact b (h.V x q ZS) (by decide)};{exact b (H ZS) (by decide)}}
theorem SI.addL{v:ZB}(h:SI w0 hb s0 s1 w making made L md or st)(G:w.grownBy w' md.ownBlock)(D:w'.ownsRow (z (A w0)) 198 6 v (L.length+1) (L.flatMap smV++smV m))(ZM:m.done=ZA):SI w0 hb s0 s1 (w'.setCell (N hb 2 Z) v) making made (L++[m]) v or st/\KS (z (A w0)) XN w (w'.setCell (N hb 2 Z) v):=by
 have ZS:=af h.W;have C:KS (z (A w0)) XN w w':=KS.of_grown G h.lt λj ZQ=>by obtain⟨h1,_,l,h2⟩:=ZS j ZQ;exact⟨h1,.inr λl t fz o=>.inr (.inl (ah o h2))⟩
 have q:∀(i:Nat) (l:Array ZB) (t:ZH) (fz:Nat × Nat),w.heap[i]?=T (Obj.cells l t fz)->t≠198->w'.heap[i]?=w.heap[i]?:=λi l t fz hi O=>G.block i (ag hi) λe=>by obtain⟨_,_,ZR,h2⟩:=ZS i e.symm;exact O (ah hi h2)
 have b:ShBox w' hb s0 s1 md or st 0 ⟨#[]⟩ (Y Z 0 0) ZA:=h.ab.ad (q _ _ _ _ h.ab (by decide));have f:∀{size n:Nat} {u:ZH} {E:ZB} {H:List ZB},w.ownsRow (z (A w0)) u size E n H->u≠198->117≠u->(w'.setCell (N hb 2 Z) v).ownsRow (z (A w0)) u size E n H:=λy K ZO=>by
  have ZP:=bI (w':=w') y λk g=>by obtain⟨_,_,l,o⟩:=af y k g;exact q _ _ _ _ o K
  exact ay ZP (λe=>by
   obtain⟨_,_,ZR,r⟩:=af ZP hb e
   exact ZO (ah b r)) _ _
 have ZT:(w'.setCell (N hb 2 Z) v).ownsRow (z (A w0)) 198 6 v (L.length+1) (L.flatMap smV++smV m):=ay D (λe=>by
  obtain⟨_,_,ZR,r⟩:=af D hb e
  exact absurd (ah b r) (by decide)) _ _
 have g:KS (z (A w0)) XN w' (w'.setCell (N hb 2 Z) v):=KS.setCell w' h.hbB (.inr λl t fz o=>.inr (.inr (ah o b))) v;refine⟨⟨h.X.trans (C.to g).aa,h.hbB,au b v,(by rw[eL,D0,JA,List.flatMap_singleton];exact ZT),f h.ror (by decide) (by decide),f h.rst (by decide) (by decide),h.apart,λx s p=>?_⟩,C.to g⟩;rcases BC.1 s with s|s;{exact f (h.V x s p) (by decide) (by decide)};{rw[hU.1 s,ZM] at p;cases p}
theorem SI.ord{v:ZB}(h:SI w0 hb s0 s1 w making made L md or st)(ZS:w.grownBy w' or.ownBlock)(D:w'.ownsRow (z (A w0)) 9 1 v (made.length+1) (bo (made.map (·.e))++[U x.e]))(ZO:v.ownBlock=or.ownBlock∨v.ownBlock=T (z (A w))):SI w0 hb s0 s1 (w'.setCell (N hb 3 Z) v) making (made++[x]) L md v st/\KS (z (A w0)) XN w (w'.setCell (N hb 3 Z) v):=by
 have ZR:=af h.ror;have C:KS (z (A w0)) XN w w':=KS.of_grown ZS h.lt λj ZM=>by obtain⟨h1,_,l,h2⟩:=ZR j ZM;exact⟨h1,.inr λl t fz m=>.inl (ah m h2)⟩
 have p:∀(i:Nat) (l:Array ZB) (t:ZH) (fz:Nat × Nat),w.heap[i]?=T (Obj.cells l t fz)->t≠9->w'.heap[i]?=w.heap[i]?:=λi l t fz hi ZQ=>ZS.block i (ag hi) λe=>by obtain⟨_,_,o,h2⟩:=ZR i e.symm;exact ZQ (ah hi h2)
 have f:ShBox w' hb s0 s1 md or st 0 ⟨#[]⟩ (Y Z 0 0) ZA:=h.ab.ad (p _ _ _ _ h.ab (by decide));have q:∀{size n:Nat} {u:ZH} {G:ZB} {ZP:List ZB},w.ownsRow (z (A w0)) u size G n ZP->u≠9->117≠u->(w'.setCell (N hb 3 Z) v).ownsRow (z (A w0)) u size G n ZP:=λy K H=>by
  have r:=bI (w':=w') y λk b=>by obtain⟨_,_,l,m⟩:=af y k b;exact p _ _ _ _ m K
  exact ay r (λe=>by
   obtain⟨_,_,o,g⟩:=af r hb e
   exact H (ah f g)) _ _
 have ZT:(w'.setCell (N hb 3 Z) v).ownsRow (z (A w0)) 9 1 v (made.length+1) (bo (made.map (·.e))++[U x.e]):=ay D (λe=>by
  obtain⟨_,_,o,g⟩:=af D hb e
  exact absurd (ah f g) (by decide)) _ _
 have b:KS (z (A w0)) XN w' (w'.setCell (N hb 3 Z) v):=KS.setCell w' h.hbB (.inr λl t fz m=>.inr (.inr (ah m f))) v;refine⟨⟨h.X.trans (C.to b).aa,h.hbB,au f v,q h.W (by decide) (by decide),(by rw[eL,D0];simpa[bo] using ZT),?_,λk s=>?_,λx P E=>q (h.V x P E) (by decide) (by decide)⟩,C.to b⟩
 ·have r:w'.ownsRow (z (A w0)) 9 1 st making.length (bo making):=bI h.rst λk b=>by
   obtain⟨_,O,l,m⟩:=af h.rst k b;exact ZS.block k O λe=>h.apart k e.symm b
  exact ay r (λe=>by
   obtain⟨_,_,o,g⟩:=af r hb e
   exact absurd (ah f g) (by decide)) _ _
 ·intro e;rcases ZO with a|a;{exact h.apart k (by rw[<-a];exact s) e}
  ·rw[a] at s;cases s
   have:=(af h.rst _ e).2.1;omega
theorem SI.push{v:ZB}(h:SI w0 hb s0 s1 w making made L md or st)(ZS:w.grownBy w' st.ownBlock)(D:w'.ownsRow (z (A w0)) 9 1 v (making.length+1) (bo making++[U nm]))(ZO:v.ownBlock=st.ownBlock∨v.ownBlock=T (z (A w))):SI w0 hb s0 s1 (w'.setCell (N hb 4 Z) v) (making++[nm]) made L md or v/\KS (z (A w0)) XN w (w'.setCell (N hb 4 Z) v):=by
 have y:=af h.rst;have C:KS (z (A w0)) XN w w':=KS.of_grown ZS h.lt λj ZM=>by obtain⟨h1,_,l,h2⟩:=y j ZM;exact⟨h1,.inr λl t fz m=>.inl (ah m h2)⟩
 have p:∀(i:Nat) (l:Array ZB) (t:ZH) (fz:Nat × Nat),w.heap[i]?=T (Obj.cells l t fz)->t≠9->w'.heap[i]?=w.heap[i]?:=λi l t fz hi ZQ=>ZS.block i (ag hi) λe=>by obtain⟨_,_,o,h2⟩:=y i e.symm;exact ZQ (ah hi h2)
 have f:ShBox w' hb s0 s1 md or st 0 ⟨#[]⟩ (Y Z 0 0) ZA:=h.ab.ad (p _ _ _ _ h.ab (by decide));have q:∀{size n:Nat} {s:ZH} {G:ZB} {ZP:List ZB},w.ownsRow (z (A w0)) s size G n ZP->s≠9->117≠s->(w'.setCell (N hb 4 Z) v).ownsRow (z (A w0)) s size G n ZP:=λu K H=>by
  have r:=bI (w':=w') u λk b=>by obtain⟨_,_,l,m⟩:=af u k b;exact p _ _ _ _ m K
  exact ay r (λe=>by
   obtain⟨_,_,o,g⟩:=af r hb e
   exact H (ah f g)) _ _
 have ZT:(w'.setCell (N hb 4 Z) v).ownsRow (z (A w0)) 9 1 v (making.length+1) (bo making++[U nm]):=ay D (λe=>by
  obtain⟨_,_,o,g⟩:=af D hb e
  exact absurd (ah f g) (by decide)) _ _
 have b:KS (z (A w0)) XN w' (w'.setCell (N hb 4 Z) v):=KS.setCell w' h.hbB (.inr λl t fz m=>.inr (.inr (ah m f))) v;refine⟨⟨h.X.trans (C.to b).aa,h.hbB,au f v,q h.W (by decide) (by decide),?_,(by rw[eL,D0];simpa[bo] using ZT),λk ZR=>?_,λx P E=>q (h.V x P E) (by decide) (by decide)⟩,C.to b⟩
 ·have r:w'.ownsRow (z (A w0)) 9 1 or made.length (bo (made.map (·.e))):=bI h.ror λk b=>by
   obtain⟨_,O,l,m⟩:=af h.ror k b;exact ZS.block k O λe=>h.apart k b e.symm
  exact ay r (λe=>by
   obtain⟨_,_,o,g⟩:=af r hb e
   exact absurd (ah f g) (by decide)) _ _
 ·intro e;rcases ZO with a|a;{exact h.apart k ZR (by rw[<-a];exact e)}
  ·rw[a] at e;cases e
   have:=(af h.ror _ ZR).2.1;omega
theorem SI.pop (h:SI w0 hb s0 s1 w (making++[nm]) made L md or (Y (T (N g 0 Z)) (making.length+1) cap)):SI w0 hb s0 s1 (w.setCell (N hb 4 Z) (Y (T (N g 0 Z)) making.length cap)) making made L md or (Y (T (N g 0 Z)) making.length cap)/\KS (z (A w0)) XN w (w.setCell (N hb 4 Z) (Y (T (N g 0 Z)) making.length cap)):=by
 have b:∀{size n:Nat} {i:ZH} {j:ZB} {o:List ZB},w.ownsRow (z (A w0)) i size j n o->117≠i->(w.setCell (N hb 4 Z) (Y (T (N g 0 Z)) making.length cap)).ownsRow (z (A w0)) i size j n o:=λf m=>ay f (λe=>by
  obtain⟨_,_,cs2,l⟩:=af f hb e
  exact m (ah h.ab l)) _ _
 have hst:=h.rst;rw[eL,D0] at hst;refine⟨⟨h.X.setCell h.hbB _,h.hbB,au h.ab _,b h.W (by decide),b h.ror (by decide),b (ownsRow_pop (last:=[U nm]) (by simp[bo]) (by simpa[bo] using hst)) (by decide),h.apart,λx r p=>b (h.V x r p) (by decide)⟩,KS.setCell w h.hbB (.inr λcs t fz q=>.inr (.inr (ah q h.ab))) _⟩
end
theorem vw (h:L.Pairwise λm b=>m.e≠b.e){b:SM}(hi:L[i]?=T m)(r:L[j]?=T b)(e:m.e=b.e):i=j:=by
 rw[KF] at h;obtain⟨l,n⟩:=p9.1 hi;obtain⟨g,f⟩:=p9.1 r;rcases QA i j with q|o|p;{exact absurd (by rw[n,f];exact e) (h i j l g q)};{exact o};{exact absurd (by rw[n,f];exact e.symm) (h j i g l p)}
theorem pH (hn:L.Pairwise λm i=>m.e≠i.e)(g:m∈L)(e:m.e=nm):∃k,fI L nm=T k/\L[k]?=T m:=by
 obtain⟨k,b⟩:=LF g;refine⟨k,tk b (by rw[e];simp) λj l hj f=>?_,b⟩;cases h:(l.e.toList == nm.toList) with
 |false=>rfl
 |true =>have:=vw hn f b (by rw[bytes_beq h,e]);omega
section
variable {L:List SM}{making:List ByteArray}{made:List Ent}{nm:ByteArray}
theorem Eb (h:eK L making made){e:Ent}(j:aZ made nm=T e):∃k m,fI L nm=T k/\L[k]?=T m/\m.done=ZF/\m.E=(cI e).E/\m.y=(cI e).y:=by obtain⟨h1,h2⟩:=j8 j;obtain⟨m,b,f,i,l,g,_⟩:=h.got e h1;obtain⟨k,n,o⟩:=pH h.nod b (f.trans h2);exact⟨k,m,n,o,i,l,g⟩
theorem Ec (h:eK L making made)(hi:atL making nm=T i):∃k m,fI L nm=T k/\L[k]?=T m/\m.done=ZA/\nm∈making:=by
 have f:=hi;unfold atL at f;obtain⟨g,h1,_⟩:=MS.1 f;have b:nm∈making:=by rw[<-bytes_beq h1];exact gz g
 obtain⟨m,j,l,n⟩:=h.mkg nm b;obtain⟨k,o,p⟩:=pH h.nod j l;exact⟨k,m,o,p,n,b⟩
theorem yX (h:eK L making made)(l:aZ made nm=Z)(h1:atL making nm=Z):fI L nm=Z/\∀m∈L,m.e≠nm:=by
 have b:∀m∈L,m.e≠nm:=λm f e=>by
  rcases h.all m f with ⟨x,i,g⟩|h2;{exact dC l x i (g.trans e)};{exact iQ h1 _ h2 e}
 refine⟨vu λj m hj f=>?_,b⟩;cases h2:(m.e.toList == nm.toList) with
 |false=>rfl
 |true=>exact absurd (bytes_beq h2) (b m (JF f))
theorem qx (h:eK L making made)(j:∀m∈L,m.e≠nm)(i:m.e=nm)(l:m.done=ZA):eK (L++[m]) (making++[nm]) made:=by
 refine⟨?_,by simp[h.len];omega,λx o=>?_,λt g=>?_,λy f=>?_⟩;{rw[KT];exact⟨h.nod,P0 _ _,λa n b hb=>by rw[hU.1 hb,i];exact j a n⟩};{obtain⟨y,f,r⟩:=h.got x o;exact⟨y,KE _ f,r⟩};{rcases BC.1 g with g|g;{obtain⟨y,f,r⟩:=h.mkg t g;exact⟨y,KE _ f,r⟩};{exact⟨m,LK _ (hU.2 rfl),by rw[i,hU.1 g],l⟩}};{rcases BC.1 f with f|f;{exact(h.all y f).imp id λh=>KE _ h};{rw[hU.1 f,i];exact .inr (LK _ (hU.2 rfl))}}
theorem vA{g:List Ent}{k:Nat}{b:SM}(h:eK L (making++[nm]) g)(u:L[k]?=T m)(ZO:m.e=nm)(o:b.e=nm)(ZT:x.e=nm)(ZM:b.done=ZF)(K:b.E=(cI x).E)(O:b.y=(cI x).y)(ZQ:b.V=x.looks)(P:∀y∈g,y.e≠nm)(h1:atL making nm=Z):eK (L.set k b) making (g++[x]):=by
 have H:=(p9.1 u).1;have C:=(p9.1 u).2;have l:∀y∈L,y.e≠nm->y∈L.set k b:=λy f G=>by
  obtain⟨i,hi⟩:=LF f;refine JF (i:=i) ?_;rw[LZ λe=>?_];{exact hi}
  ·subst e;rw[u] at hi;cases hi
   exact G ZO
 have ZS:b∈L.set k b:=JF (KM H);refine⟨?_,by rw[JN,h.len];simp;omega,λy f=>?_,λt s=>?_,λy f=>?_⟩;{have p:=h.nod;rw[KF] at p ⊢;have q:∀(i:Nat) (hi:i<(L.set k b).length),(L.set k b)[i].e=(L[i]'(by simpa using hi)).e:=λi hi=>(by rw[List.getElem_set];split;{rename_i e;subst e;rw[C,ZO,o]};{rfl});intro i j hi E ZP;rw[q i hi,q j E];exact p i j (by simpa using hi) (by simpa using E) ZP};{rcases BC.1 f with f|f;{obtain⟨ZR,hz,n,r⟩:=h.got y f;exact⟨ZR,l ZR hz (by rw[n];exact P y f),n,r⟩};{rw[hU.1 f];exact⟨b,ZS,by rw[o,ZT],ZM,K,O,ZQ⟩}};{obtain⟨ZR,hz,n,r⟩:=h.mkg t (KE _ s);exact⟨ZR,l ZR hz (by rw[n];exact iQ h1 t s),n,r⟩};{rcases J5 f with D|rfl;{rcases h.all y D with ⟨ZR,hz,e⟩|h2;{exact .inl ⟨ZR,KE _ hz,e⟩};{rcases BC.1 h2 with h2|h2;{exact .inr h2};{exact .inl ⟨x,LK _ (hU.2 rfl),by rw[ZT,hU.1 h2]⟩}}};{exact .inl ⟨x,LK _ (hU.2 rfl),by rw[ZT,o]⟩}}
end
theorem mB{S:Spc}(h:SpcOk S)(hi:atI (nm0 S.f0) S.n0 nm=T i):atI (nm1 S.f1) S.n1 nm=Z:=by
 have b:=h.chk;unfold be at b;split at b;· omega
 split at b;· omega
 split at b;· omega
 split at b;· omega
 split at b;· omega
 split at b;· omega
 rename_i f;obtain⟨h1,h2⟩:=bA hi;have:=j7 (Bool.eq_false_iff.2 f) h1;rw[h2] at this;exact tj this
open Ca
section
variable {w0:M}{S:Spc}{a0 a1:Option Addr}{c0 c1 hb:Nat}{md or st:ZB}{making:List ByteArray}{made:List Ent}{L:List SM}
theorem Bp (w:M)(nm:ByteArray)(h:SI w0 hb (Y a0 S.n0 c0) (Y a1 S.n1 c1) w making made L md or st)(y:L.length<=100000)(k:Nat)(m:SM)(h1:fI L nm=T k)(h2:L[k]?=T m)(ZS:m.done=ZF):Calls Pg 130 #[.pointer (T (N hb 0 Z)),U nm] w λe w'=>e=ZD (ZG #[Q I m.E,U m.y,Y Z 0 0])/\SI w0 hb (Y a0 S.n0 c0) (Y a1 S.n1 c1) w' making made L md or st/\KS (z (A w0)) XN w w':=by
 obtain⟨o,l⟩:∃W:M,B w (J #[Q I 0,U ⟨#[]⟩,Y Z 0 0] 39)=W:=⟨_,rfl⟩
 obtain⟨t,kr,-⟩:=nb1 l;have p:=ae l;clear l;have f:=ae (h.aa t ly);have b:z (A w0)<=z (A w):=h.lt;have hkl:=(p9.1 h2).1;obtain⟨g,cap,cur,rfl,-⟩:=h.W.2.resolve_left (λh=>by omega);have ZR:dD (fI L nm)=(k:Int):=by rw[h1];rfl
 have q:=ae h2;obtain⟨n,hn⟩:∃n,n=L.length:=⟨_,rfl⟩
 have G:=ae hn;have hkn:k<n:=by omega
 clear h h1 h2 hn;go_enter func130,ntmps130;go_wp2_with fail;rw[p.out];clear p;refine(nB o nm f y).mono ?_;rintro e w1 ⟨rfl,s⟩;rw[s];clear s;rw[ZR];obtain⟨hbl,-,-,E,-⟩:=f.ab.K;have d1:o.cell? (N g (k*6+1) Z)=T (Q I m.E):=bW f.W q 1 (by omega) rfl;have d2:o.cell? (N g (k*6+2) Z)=T (U m.y):=bW f.W q 2 (by omega) rfl;have d3:o.cell? (N g (k*6+3) Z)=T (Y Z 0 0):=bW f.W q 3 (by omega) rfl;have d5:o.cell? (N g (k*6+5) Z)=T (ZC ZF):=by have:=bW f.W q.out 5 (by omega) (u:=ZC m.done) rfl;rw[ZS] at this;exact this
 rw[<-G.out] at E;obtain⟨rl,r0,r1,ZT,r⟩:=bw kr;have rf0:=r 0;have rf1:=r 1;have rf2:=r 2;have hI0:(0:Int)<=(k:Int):=by omega
 have hI1:(k:Int)<(n:Int):=by omega
 clear r;go_wp2_with fail;refine bp (v:=ZG #[Q I m.E,U m.y,Y Z 0 0]) (by simp[results,MY,go_sem,r0,r1,ZT]) rfl ⟨rfl,?_,?_⟩;{have D:=f.R kr.out ⟨by decide,by decide,by decide,by decide⟩ b 0 (Q I m.E);have x:=au kr.out (j:=0) (Q I m.E);have C:=D.R x ⟨by decide,by decide,by decide,by decide⟩ b 1 (U m.y);exact C.R (au x (j:=1) (U m.y)) ⟨by decide,by decide,by decide,by decide⟩ b 2 (Y Z 0 0)}
 ·refine((((KS.q (X:=XN) t ly b).trans (KS.setCell (X:=λi=>i=z (A w)) _ b (Or.inl rfl) _) ?_).trans (KS.setCell (X:=λi=>i=z (A w)) _ b (Or.inl rfl) _) ?_).trans (KS.setCell (X:=λi=>i=z (A w)) _ b (Or.inl rfl) _) ?_);all_goals
   intro i hi h;have e2:i=z (A w):=h;omega
theorem tv{ZQ:List ByteArray}(h:w.ownsRow b 9 1 (Y (T (N g 0 Z)) n cap) n (bo ZQ)){t:ByteArray}(f:ZQ[i]?=T t):w.cell? (N g i Z)=T (U t):=by have h1:=h.cells (g:=g) rfl i (U t) (by rw[bo,JM,f];rfl);rw[addr_add,JC] at h1;exact h1
theorem uC (C:nC w0 S a0 a1)(w:M)(nm:ByteArray)(h:SI w0 hb (Y a0 S.n0 c0) (Y a1 S.n1 c1) w making made L md or st)(Gg:L.length<=100000)(FK:making.length<=60)(k:Nat)(m:SM)(h1:fI L nm=T k)(h2:L[k]?=T m)(hd:m.done=ZA)(tg ZR:Nat)(ht:atI (nm1 S.f1) S.n1 nm=T tg)(hi:atL making nm=T ZR):Calls Pg 130 #[.pointer (T (N hb 0 Z)),U nm] w λe w'=>kj w0 hb (Y a0 S.n0 c0) (Y a1 S.n1 c1) making L w e w' (.inr (.inl (making.drop ZR))):=by
 obtain⟨i1,F0,Gh,Gi,FU⟩:=jF nE;obtain⟨W0,K⟩:∃W:M,B w (J #[Q I 0,U ⟨#[]⟩,Y Z 0 0] 39)=W:=⟨_,rfl⟩
 obtain⟨A0,kr,-⟩:=nb1 K;have bt:=ae K;clear K;have ZI:=ae (h.aa A0 ly);have o:z (A w0)<=z (A w):=h.lt;have hkl:=(p9.1 h2).1;obtain⟨g,cap,cur,rfl,-⟩:=h.W.2.resolve_left (λh=>by omega);have e1:dD (fI L nm)=(k:Int):=by rw[h1];rfl
 have ZO:dD (atI (nm1 S.f1) S.n1 nm)=(tg:Int):=by rw[ht];rfl
 have FQ:ZR<making.length/\(∃x,making[ZR]?=T x/\(x.toList == nm.toList)=ZF)/\∀(j:Nat) (y:ByteArray),j<ZR->making[j]?=T y->(y.toList == nm.toList)=ZA:=by unfold atL at hi;obtain⟨q1,q2,q3⟩:=MS.1 hi;refine⟨q1,⟨_,gq q1,q2⟩,λj y hj hy=>?_⟩;have:=q3 j hj;rw[Bool.not_eq_true] at this;rw[(p9.1 hy).2] at this;exact this
 obtain⟨Fd,⟨xi,ro,Bk⟩,ld⟩:=FQ;obtain⟨ZK,l,cus,rfl,qr⟩:=h.rst.2.resolve_left (λh=>by omega);have F3:making.length<=l:=qr.2.2.1;have H2:=ae h2;have Gb:=ae ro;have Gk:=ae ld;have F8:=ae Bk;obtain⟨n,hn⟩:∃n,n=L.length:=⟨_,rfl⟩
 have HN:=ae hn;have hkn:k<n:=by omega
 obtain⟨f,mv⟩:∃f,f=making.length:=⟨_,rfl⟩
 have E:=ae mv;have CC:=ae C;have hsm:=C.ok.ax;rw[<-mv] at Fd FK F3;clear h h1 h2 hn C ht hi qr mv ro Bk ld;go_enter func130,ntmps130;go_wp2_with fail;rw[bt.out];clear bt;refine(nB W0 nm ZI Gg).mono ?_;rintro e w1 ⟨rfl,ur⟩;rw[ur];clear ur;rw[e1];obtain⟨ZL,b0,b1,b2,-⟩:=ZI.ab.K;have d5:W0.cell? (N g (k*6+5) Z)=T (ZC ZA):=by have:=bW ZI.W H2.out 5 (by omega) (u:=ZC m.done) rfl;rw[hd] at this;exact this
 rw[<-HN.out] at b2;have hI0:(0:Int)<=(k:Int):=by omega
 have hI1:(k:Int)<(n:Int):=by omega
 go_wp2_with fail;refine(gH a0 S.n0 c0 a1 S.n1 c1 S.f0 nm W0 (by omega) (CC.src.aa ZI.X ly)).mono ?_;rintro e w1 ⟨rfl,ZT⟩;have S1:=ae (ZI.aa ZT ly);have DS:Hid (w1.heap[z (A w)]?=_):=(ZT.block _ (ag kr)).trans kr;have K1:=ae (A0.trans (ZT.mono A0.size));clear ZT b0 b1 b2 ZL d5;obtain⟨ZL,b0,b1,-⟩:=S1.ab.K;go_wp2_with fail;refine(gI a0 S.n0 c0 a1 S.n1 c1 S.f1 nm w1 (by omega) (CC.j.aa S1.X ly)).mono ?_;rintro e ZN ⟨he,ZT⟩;rw[ZO] at he;subst he;have s:=ae (S1.aa ZT ly);have DE:Hid (ZN.heap[z (A w)]?=_):=(ZT.block _ (ag DS)).trans DS;have K2:=ae (K1.trans (ZT.mono K1.size));clear ZT b0 b1 ZL;obtain⟨ZL,-,-,-,-,b4,b5,b6,b7,b8,bf⟩:=s.ab.K;have FZ:=bf 5;have Ga:=bf 6;have Gj:=bf 7;have F7:=bf 8;rw[<-E.out] at b4;clear bf;have hT0:(0:Int)<=(tg:Int):=by omega
 go_wp2_with fail;go_loop [9] (λi=>∃j:Nat,j<=ZR/\i=Q I j) (λi=>ZR - (intOf i).toNat);case atStart=>exact⟨0,by omega,rfl⟩
 case round =>
  obtain⟨j,hj,rfl⟩:=hrel;obtain⟨y,hy⟩:∃y,making[j]?=T y:=⟨_,gq (by have:=E.out;omega)⟩
  have dj:ZN.cell? (N ZK j Z)=T (U y):=tv s.rst hy;have hjm:(j:Int)<(f:Int):=by omega
  have HY:=ae hy;clear hy;by_cases Gf:j<ZR;{have FW:=Gk.out j y Gf HY.out;have HNE:=ae FW;go_wp2;exact⟨⟨j+1,by omega,by go_num⟩,by simp[intOf];omega⟩}
  ·obtain rfl:j=ZR:=by omega
   have hye:(y.toList == nm.toList)=ZF:=by
    have:=HY.out;rw[Gb.out] at this;cases this
    exact F8
   go_upto_region 22 with fail;clear dj b4 b5 b6 b7 b8 FZ Ga Gj F7;have DQ:=ae (au s.ab (j:=8) (ZC ZF))
   have R3:Hid ((ZN.setCell (N hb 8 Z) (ZC ZF)).ownsRow (z (A w0)) 9 1 (Y (T (N ZK 0 Z)) making.length l) making.length (bo making)):=ay s.rst (λe=>by
    obtain⟨_,_,At,D⟩:=af s.rst hb e
    exact absurd (ah s.ab D) (by decide)) _ _
   have hbw:hb≠z (A w):=λe=>absurd (ah s.ab (e ▸ DE.out)) (by decide);have R:Hid ((ZN.setCell (N hb 8 Z) (ZC ZF)).heap[z (A w)]?=_):=(qh _ _ _ _ (Ne.symm hbw)).trans DE;have V:Hid (KS (z (A w0)) XN w (ZN.setCell (N hb 8 Z) (ZC ZF))):=(KS.q (X:=XN) K2 ly o).to (KS.setCell ZN s.hbB (.inr λl t fz ZM=>.inr (.inr (ah ZM s.ab))) _);have fd:z (A w0)<=hb:=s.hbB;generalize World.setCell ZN _ _=b at DQ R3 R V ⊢;have ZP:Hid (ShBox b hb (Y a0 S.n0 c0) (Y a1 S.n1 c1) (Y (T (N g 0 Z)) L.length cap) or (Y (T (N ZK 0 Z)) making.length l) 0 ⟨#[]⟩ (Y Z 0 0) ZF):=DQ.out;obtain⟨FO,-,-,-,-,b4,-⟩:=ZP.K;rw[<-E.out] at b4;have LO:=ae (me b 9 1);have A4:=ae ((BS b).alloc ly (J #[] 9));have Gc:Hid (∀q u,(bo (making.drop j))[q]?=T u->(B b (J #[] 9)).cell? (((N ZK j Z):Addr).add q)=T u):=λq u hq=>by have h1:=(own_below R3 A4 ly).cells (g:=ZK) rfl (j+q) u (by rw[<-hq,bo,bo,JM,JM,TA]);rw[addr_add,JC] at h1;rw[addr_add];exact h1
   have hjc:¬ l=j:=by omega
   have hI2:(0:Int)<=(j:Int):=by omega
   have hI3:(j:Int)<=(f:Int):=by omega
   have hI4:(f:Int)<=(l:Int):=by omega
   have n9:(bo (making.drop j)).length=(f - j)*1:=by rw[bo,LI,J6,<-E.out,Nat.mul_one]
   have Ge:=ae n9;have aq:∀u∈bo (making.drop j),u.oneCell'=ZF:=λu hu=>by rw[bo,KH] at hu;obtain⟨t,_,rfl⟩:=hu;rfl
   have Fm:=ae aq;clear n9 aq;have HG:Hid (∀r:M,(B b (J #[] 9)).grownBy r (T (z (A b)))->r.heap[hb]?=b.heap[hb]?/\r.heap[z (A w)]?=b.heap[z (A w)]?):=λr hg=>by
    have hz:(B b (J #[] 9)).heap.size=z (A b)+1:=by simp
    have FV:=ag R.out;exact⟨(hg.block hb (by omega) (λe=>by have ZO:hb=z (A b):=IT e;omega)).trans (A4.block hb FO),(hg.block (z (A w)) (by omega) (λe=>by have ZO:z (A w)=z (A b):=IT e;omega)).trans (A4.block _ FV)⟩
   have ZJ:z (A b)<=(B b (J #[] 9)).heap.size:=by simp
   have FP:(0+(f - j))*16<=140737488355328:=by omega
   have FM:0+(f - j)<=maxLen:=by unfold maxLen;omega
   have Fk:0+(f - j)≠0:=by omega
   go_wp2_with (first
    |(at_builtin;refine bG _ rfl (.tmp 129) (.tmp 135) 30 rfl (z (A b)) 9 i1 (U ⟨#[]⟩) 1 16 JD F0 Gh Gi FU rfl (by decide) (Y (T (N (z (A b)) 0 Z)) 0 0) 0 [] (by simp[Act.eval]) LO.out (N ZK j Z) (f - j) (l - j) (bo (making.drop j)) (by simp[Act.eval]) Ge.out Gc.out Fm.out FM FP ZJ ?_;intro v4 r P p F9;have O4:=ae P;have sm:=ae (HG r p).1;have th:=ae (HG r p).2;have G4:=ae p;obtain⟨ZQ,c4,cu4,rfl,FX⟩:=P.2.resolve_left (λh=>Fk h.2);clear FX P p F9;obtain⟨hbl4,-,-,-,-,-,f5,f6,f7,-,ff⟩:=(ShBox.ad ZP sm).K;have ff5:=ff 5;have ff6:=ff 6;have ff7:=ff 7;obtain⟨rl,r0,r1,r2,rf⟩:=bw (th.trans R);have rf0:=rf 0;have rf1:=rf 1;have rf2:=rf 2;have hbw2:¬ (z (A w))=hb:=(λe=>hbw e.symm);have H:¬ hb=z (A w):=hbw;clear ff rf)
    |fail)
   refine bp (v:=ZG #[Q I 6,U ⟨#[]⟩,Y (T (N ZQ 0 Z)) (f - j) c4]) (by simp[results,MY,go_sem,r0,r1,r2]) rfl ?_;have n8:(making.drop j).length=f - j:=by rw[J6,<-E.out]
   have ex:=sm.trans ZP.out;have CD:=au ex (j:=5) (Q I 6);have ph:=au CD (j:=6) (U ⟨#[]⟩);have FY:=au ph (j:=7) (Y (T (N ZQ 0 Z)) (f - j) c4);have G:(Value.slice (T (N ZQ 0 Z)) (f - j) c4).ownBlock≠T hb:=λe=>by obtain⟨_,_,At,D⟩:=af O4 hb (by simpa[Value.ownBlock] using e);exact absurd (ah ex D) (by decide)
   have O:(Value.slice (T (N ZQ 0 Z)) (f - j) c4).ownBlock≠T (z (A w)):=λe=>by obtain⟨_,_,At,D⟩:=af O4 (z (A w)) (by simpa[Value.ownBlock] using e);exact absurd (ah (th.trans R) D) (by decide)
   have o4:r.ownsRow (z (A w0)) 9 1 (Y (T (N ZQ 0 Z)) (f - j) c4) (f - j) (bo (making.drop j)):=by have h1:=O4.out;rw[JC,JW] at h1;exact aC h1 (nD o V.aa.size)
   have k4:KS (z (A w0)) XN w r:=(V.to (KS.q (X:=XN) A4 ly (nD o V.aa.size))).to (KS.of_grown G4 (nD (nD o V.aa.size) ZJ) λq hq=>by
    have ZO:q=z (A b):=(IT hq).symm;refine⟨by rw[ZO];exact nD o V.aa.size,.inr λl t fz ZM=>?_⟩;rw[ZO] at ZM
    exact .inl (ah ZM (gM b _)))
   have ZS:∀(W:M) (l:Array ZB) (t:ZH) (fz:Nat × Nat),W.heap[hb]?=r.heap[hb]?∨(∃c2,W.heap[hb]?=T (J c2 117 (0,0)))->W.heap[hb]?=T (J l t fz)->t=9∨t=198∨t=117:=λW l t fz hW ZM=>by
    rcases hW with hW|⟨c2,hW⟩
    {exact .inr (.inr (ah ZM (hW.trans ex)))};{exact .inr (.inr (ah ZM hW))}
   refine⟨T (N ZQ 0 Z),c4,by rw[n8];rfl,⟨_,_,_,_,_,(qh _ _ _ _ H).trans ((qh _ _ _ _ H).trans ((qh _ _ _ _ H).trans (by rw[n8];exact FY))),?_⟩,?_⟩;{show World.ownsRow _ _ _ _ _ (making.drop j).length _;rw[n8];exact ay (ay (ay (ay (ay (ay o4 G _ _) G _ _) G _ _) O _ _) O _ _) O _ _}
   ·have k7:=((k4.to (KS.setCell (X:=XN) r fd (.inr λl t fz=>ZS _ l t fz (.inl rfl)) (Q I 6) (j:=5))).to (KS.setCell (X:=XN) _ fd (.inr λl t fz=>ZS _ l t fz (.inr ⟨_,CD⟩)) (U ⟨#[]⟩) (j:=6))).to (KS.setCell (X:=XN) _ fd (.inr λl t fz=>ZS _ l t fz (.inr ⟨_,ph⟩)) (Y (T (N ZQ 0 Z)) (f - j) c4) (j:=7));refine((k7.trans (KS.setCell (X:=λi=>i=z (A w)) _ o (Or.inl rfl) _) ?_).trans (KS.setCell (X:=λi=>i=z (A w)) _ o (Or.inl rfl) _) ?_).trans (KS.setCell (X:=λi=>i=z (A w)) _ o (Or.inl rfl) _) ?_;all_goals
     intro i hi h;have ZO:i=z (A w):=h;omega
end
def fu (nm:ByteArray):SM:=⟨nm,0,⟨#[]⟩,[],Y Z 0 0,ZA⟩
theorem Bq (w:M)(i f m b l n:ZB)(t:ZH):∀j u,[i,f,m,b,l,n][j]?=T u->(B w (J #[i,f,m,b,l,n] t)).cell? (((N (z (A w)) 0 Z):Addr).add j)=T u:=by
 intro j u h;rw[addr_add];have hj:j<6:=by
  rcases J7 j 6 with g|g;{exact g};{rw[JR (by simp;omega)] at h;cases h}
 rcases(show j=0∨j=1∨j=2∨j=3∨j=4∨j=5 by omega) with rfl|rfl|rfl|rfl|rfl|rfl;all_goals
  simp at h;subst h;simp
theorem nH (w:M)(v:ZB)(t:ZH):∀j u,[v][j]?=T u->(B w (J #[v] t)).cell? (((N (z (A w)) 0 Z):Addr).add j)=T u:=by
 intro j u h;rw[addr_add];have f:j=0:=by
  rcases J7 j 1 with b|b;{omega};{rw[JR (by simp;omega)] at h;cases h}
 subst f;simp at h;subst h;simp
theorem iT{v:ZB}{f:List ZB}(h:w.ownsRow b e size v n f):∃a cap,v=Y a n cap:=by
 obtain⟨_,⟨rfl,rfl⟩|⟨g,cap,cur,rfl,_⟩⟩:=h;{exact⟨Z,0,rfl⟩};{exact⟨_,_,rfl⟩}
theorem KS.fresh{W:M}(h:KS ZT XN W w)(hb:z (A W)<=b)(g:ZT<=z (A W))(j:Nat)(u:ZB):KS ZT XN W (w.setCell (N b j Z) u) :=
 h.trans (KS.setCell (X:=λi=>i=b) w (nD g hb) (Or.inl rfl) u) λi hi f=>by have e2:i=b:=f;omega
section
variable {w0 w:M}{hb:Nat}{s0 s1 or st:ZB}{making:List ByteArray}{made:List Ent}{L:List SM}
theorem SI.upd'{k:Nat}(l:L.length=ZM)(h:SI w0 hb s0 s1 w making made L (Y (T (N g 0 Z)) ZM cap) or st)(b:L[k]?=T m)(f:j<6)(n:smV m'=(smV m).set j u)(i:m'.done=ZF->w.ownsRow (z (A w0)) 201 3 m'.sv m'.V.length (dJ m'.V)):SI w0 hb s0 s1 (w.setCell (N g (k*6+j) Z) u) making made (L.set k m') (Y (T (N g 0 Z)) ZM cap) or st/\KS (z (A w0)) XN w (w.setCell (N g (k*6+j) Z) u)/\(L.set k m')[k]?=T m'/\(L.set k m').length=ZM:=by subst l;have:=h.upd b f n i;rw[JN] at this;exact⟨this.1,this.2,KM (p9.1 b).1,JN⟩
theorem SI.told{k:Nat}(q:L.length=ZM)(h:SI w0 hb s0 s1 w making made L (Y (T (N g 0 Z)) ZM cap) or st)(x:L[k]?=T m)(y:m.done=ZA)(b:Int)(f:ByteArray):SI w0 hb s0 s1 (((w.setCell (N g (k*6+1) Z) (Q I b)).setCell (N g (k*6+1+1) Z) (U f)).setCell (N g (k*6+1+2) Z) (Y Z 0 0)) making made (L.set k ⟨m.e,b,f,m.V,m.sv,ZA⟩) (Y (T (N g 0 Z)) ZM cap) or st/\KS (z (A w0)) XN w (((w.setCell (N g (k*6+1) Z) (Q I b)).setCell (N g (k*6+1+1) Z) (U f)).setCell (N g (k*6+1+2) Z) (Y Z 0 0))/\(L.set k ⟨m.e,b,f,m.V,m.sv,ZA⟩)[k]?=T ⟨m.e,b,f,m.V,m.sv,ZA⟩/\(L.set k ⟨m.e,b,f,m.V,m.sv,ZA⟩).length=ZM:=by obtain⟨a1,s,ZS,ZR⟩:=h.upd' q x (j:=1) (by omega) (u:=Q I b) (m':=⟨m.e,b,m.y,m.V,m.sv,ZA⟩) (by simp[smV,y]) (λh=>by cases h);obtain⟨ZT,t,o,r⟩:=a1.upd' ZR ZS (j:=2) (by omega) (u:=U f) (m':=⟨m.e,b,f,m.V,m.sv,ZA⟩) rfl (λh=>by cases h);obtain⟨l,p,n,i⟩:=ZT.upd' r o (j:=3) (by omega) (m':=⟨m.e,b,f,m.V,m.sv,ZA⟩) (u:=Y Z 0 0) rfl (λh=>by cases h);rw[QO,QO] at l n i;exact⟨l,(s.to t).to p,n,i⟩
end
theorem Fv{ZR:Int}(h0:0<=ZR)(h1:ZR<=1048576):IntKind.i64.wrap ZR=ZR:=by rw[AI];omega
theorem EZ{f:Nat}{t:ZH}{v:ZB}{i:List ZB}{l:Array ZB}{fz:Nat × Nat}(h:w.ownsRow f e size v n i)(hb:w.heap[b]?=T (J l t fz))(g:e≠t):v.ownBlock≠T b:=λk=>by obtain⟨_,_,cs',j⟩:=af h b k;exact g (ah j hb)
theorem Fa{w':M}{v:ZB}{b:List ZB}(h:w.ownsRow ZT 201 3 v n b)(f:KS ZT XN w w'):w'.ownsRow ZT 201 3 v n b:=bI h λk e=>by obtain⟨_,_,cs,g⟩:=af h k e;exact f.ad _ _ _ _ g (by decide) (by decide) (by decide) λh=>h
theorem LExt.add (n:Nat)(L:List SM)(h:m.done=ZA):LExt n L (L++[m]):=by
 refine⟨λi g b=>⟨g,?_,rfl⟩,λg b f=>?_⟩;{rw[JU (p9.1 b).1];exact b};{rcases BC.1 b with b|b;{exact .inl ⟨g,b,f,rfl⟩};{rw[hU.1 b,h] at f;cases f}}
theorem LExt.set{k:Nat}{o:List SM}(h:LExt n L o)(q:o[k]?=T m)(u:f.e=m.e)(y:∀j,f.sv.ownBlock=T j->n<=j):LExt n L (o.set k f):=by
 refine⟨λi p b=>?_,λp b t=>?_⟩
 ·obtain⟨x,l,s⟩:=h.nam i p b;by_cases g:k=i
  ·subst g;rw[q] at l;cases l
   exact⟨f,KM (p9.1 q).1,u.trans s⟩
  {exact⟨x,by rw[LZ g];exact l,s⟩}
 {rcases J5 b with r|rfl;{exact h.sn p r t};{exact .inr y}}
section
variable {w0:M}{S:Spc}{a0 a1:Option Addr}{c0 c1 hb:Nat}{md or st:ZB}{making:List ByteArray}{made:List Ent}{L:List SM}
set_option linter.unusedVariables false in
theorem ko:(∀(C:nC w0 S a0 a1) (w:M) (nm:ByteArray) (h:SI w0 hb (Y a0 S.n0 c0) (Y a1 S.n1 c1) w making made L md or st) (Gz:L.length<=100000) (Im:made.length<=100000) (h1:fI L nm=Z) (h3:atI (nm1 S.f1) S.n1 nm=Z) (f:Int) (tx:ByteArray) (hw:(atI (nm0 S.f0) S.n0 nm=Z/\f=4/\tx=nm)∨∃si,atI (nm0 S.f0) S.n0 nm=T si/\f=0/\tx=(S.f0 si).y) (kd:Int) (te:ByteArray),Calls Pg 130 #[.pointer (T (N hb 0 Z)),U nm] w λe w'=>∃Ga F3,e=ZD (ZG #[Q I f,U tx,Y Z 0 0])/\SI w0 hb (Y a0 S.n0 c0) (Y a1 S.n1 c1) w' making (made++[⟨nm,kd,0,te,0,[]⟩]) ((L++[fu nm]).set L.length ⟨nm,f,tx,[],Y Z 0 0,ZF⟩) Ga F3 st/\KS (z (A w0)) XN w w')/\(∀(C:nC w0 S a0 a1) (w:M) (nm:ByteArray) (h:SI w0 hb (Y a0 S.n0 c0) (Y a1 S.n1 c1) w making made L md or st) (Gz:L.length<=100000) (h1:fI L nm=Z) (hi:atL making nm=Z) (tg:Nat) (h3:atI (nm1 S.f1) S.n1 nm=T tg) (X:Out Ent) (hd:(making.length=60/\X=.inr (.inr nm))∨∃n',making.length+(n'+1)=60/\lL w0 S hb (Y a0 S.n0 c0) (Y a1 S.n1 c1) n'/\eK L making made/\PG S making made/\ec S making made 1/\MT S making/\aZ made nm=Z/\X=jq nm tg (bU S (aQ S n' (making++[nm])) tg 201 made [] [])),Calls Pg 130 #[.pointer (T (N hb 0 Z)),U nm] w λe w'=>kj w0 hb (Y a0 S.n0 c0) (Y a1 S.n1 c1) making L w e w' X):=by
 refine⟨λC w nm h Gz Im h1 h3 f tx hw kd te=>?_,λC w nm h Gz h1 hi tg h3 X hd=>?_⟩;rotate_left;focus
  rcases hd with ⟨Gi,hX⟩|⟨n',IA,HK,hrel,hp,At,Ij,ZI,hX⟩
  case' inl=>(subst hX;have DEEP:=True.intro)
  case' inr =>
   obtain⟨-,bt⟩:=yX hrel ZI hi;have hmade:made.length<=50000:=by unfold ec at At;omega
   have Gi:making.length<60:=by omega
   have ro:=(bA h3).1;obtain⟨R,hR⟩:∃R,R=bU S (aQ S n' (making++[nm])) tg 201 made [] []:=⟨_,rfl⟩
   have HR:=ae hR;obtain⟨tb,H6,It,GK⟩:=C.j.resolve_left (by omega);have Jk:=ae It;have Gl:=ae GK;have GF:Hid (∀(W:M) (Ga F3 GP:ZB) (a:Option Addr) (cap:Nat),SI w0 hb (Y a0 S.n0 c0) (Y a1 S.n1 c1) W (making++[nm]) made (L++[fu nm]) Ga F3 GP->SlIns w0 a (S.f1 tg).m (S.f1 tg).D->Calls Pg 184 #[.pointer (T (N hb 0 Z)),ZG #[Y a (S.f1 tg).m cap]] W λe w'=>nG w0 hb (Y a0 S.n0 c0) (Y a1 S.n1 c1) (making++[nm]) (L++[fu nm]) W e w' R):=by
    intro W Ga F3 GP a cap hS Gy;rw[hR];refine Bj C n' HK made _ Ga F3 GP W a cap tg (by rw[eL,D0];omega) hS (qx hrel bt rfl rfl) (jC hp ZI) ?_ ?_ ro Gy
    ·have:=fj ro (bA h3).2 ZI hi
     unfold ec at At ⊢;omega
    ·intro t ht
     rcases BC.1 ht with ht|ht
     ·exact Ij t ht
     ·rw[hU.1 ht,h3];rfl
   have HI:=ae hi;have H0:=ae ZI;have Ic:Hid (∀G x,R=.inl (G,x)->G.length<=100000/\∀y∈G,y.e≠nm):=by intro G x he;rw[hR] at he;have g1:=lH C.ok ro (ey C.ok n' (making++[nm])) _ _ _ _ _ _ (jC hp ZI) (lG S made) rfl he;have l:=qi (λmade Jm Hz e=>fS S n' (making++[nm]) made Jm Hz e) _ _ _ _ _ _ he;have g3:=fj ro (bA h3).2 ZI hi;refine⟨?_,(jD g1.1).2⟩;unfold eV at l;unfold ec at At;omega
   have Ik:=ae bt;have HREL:=ae hrel;subst hX;rw[<-hR];clear HK hp At Ij ZI GK It hR bt hrel;clear IA ro
 all_goals
  obtain⟨im,IK,Jl,DQ,Hv⟩:=jF Bd;obtain⟨i1,Hn,G8,Hx,Hb⟩:=jF nE;obtain⟨W0,Gf⟩:∃W:M,B w (J #[Q I 0,U ⟨#[]⟩,Y Z 0 0] 39)=W:=⟨_,rfl⟩
  obtain⟨A0,kr,-⟩:=nb1 Gf;have Hh:=ae Gf;clear Gf;have S0:=ae (h.aa A0 ly);have E:z (A w0)<=z (A w):=h.lt;have e1:dD (fI L nm)=-1:=by rw[h1];rfl
  obtain⟨am,cm,rfl⟩:=iT h.W;obtain⟨n,hn⟩:∃n,n=L.length:=⟨_,rfl⟩
  have HN:=ae hn;have CC:=ae C;have hsm:=C.ok.ax;have hn1:n<=100000:=by omega
  clear h h1 hn C
 rotate_left 2;focus
  have et:dD (atI (nm1 S.f1) S.n1 nm)=-1:=by rw[h3];rfl
  rcases hw with ⟨h2,Fd,GN⟩|⟨si,h2,Fd,GN⟩
  case' inl=>have es:dD (atI (nm0 S.f0) S.n0 nm)=-1:=by rw[h2];rfl
  case' inr =>
   have es:dD (atI (nm0 S.f0) S.n0 nm)=(si:Int):=by rw[h2];rfl
   have Jf:=(bA h2).1;obtain⟨sb,so,Id,Ih⟩:∃sb so,a0=T (N sb so Z)/\RowSource w0 sb so S.n0 S.f0:=by
    rcases CC.src with h|⟨b,off,e,hr⟩
    ·omega
    ·exact⟨b,off,e,hr⟩
   have GL:=ae Ih;have IX:=ae Id;clear Ih Id
  all_goals
   have Ie:=ae GN;have Ia:=ae Fd;clear h2 h3 GN Fd
 rotate_left 2;iterate 2
  focus
   obtain⟨es0,es⟩:∃ZR,dD (atI (nm0 S.f0) S.n0 nm)=ZR:=⟨_,rfl⟩
   have et:dD (atI (nm1 S.f1) S.n1 nm)=(tg:Int):=by rw[h3];rfl
   have GS:∀(j:Nat) (y:ByteArray),making[j]?=T y->(y.toList == nm.toList)=ZA:=λj y hy=>by unfold atL at hi;rw[MV] at hi;exact hi y (JF hy)
   have Jt:=ae GS;obtain⟨ms,GV⟩:∃ms,ms=making.length:=⟨_,rfl⟩
   have ld:=ae GV;have hT0:(0:Int)<=(tg:Int):=by omega
   have ro:=(bA h3).1;rw[<-GV] at Gi;obtain⟨H7,Ig,rfl⟩:=iT S0.rst;clear h3 hi GS GV
  rotate_left
 all_goals
  go_enter func130,ntmps130;go_wp2_with fail;rw[Hh.out];clear Hh;refine(nB W0 nm S0 Gz).mono ?_;rintro e w1 ⟨rfl,Ib⟩;rw[Ib,e1];clear Ib e1;obtain⟨ZP,-,-,b2,-⟩:=S0.ab.K;rw[<-HN.out] at b2;have A1:=ae ((BS W0).alloc ly (J #[U nm,Q I 0,U ⟨#[]⟩,Y Z 0 0,Y Z 0 0,ZC ZA] 198));have SA:=ae (S0.aa A1 ly);have RM:=ae (by have h:=SA.W;rw[<-HN.out] at h;exact h);have I6:(B W0 (J #[U nm,Q I 0,U ⟨#[]⟩,Y Z 0 0,Y Z 0 0,ZC ZA] 198)).heap.size=z (A W0)+1:=by simp
  have HG:Hid (∀ZQ:M,(B W0 (J #[U nm,Q I 0,U ⟨#[]⟩,Y Z 0 0,Y Z 0 0,ZC ZA] 198)).grownBy ZQ (Value.slice am n cm).ownBlock->ZQ.heap[hb]?=(B W0 (J #[U nm,Q I 0,U ⟨#[]⟩,Y Z 0 0,Y Z 0 0,ZC ZA] 198)).heap[hb]?):=λZQ hg=>hg.block hb (by omega) λe=>by obtain⟨_,_,cs,hc⟩:=af RM hb e.symm;exact absurd (ah SA.ab hc) (by decide)
  have IB:z (A w0)<=(B W0 (J #[U nm,Q I 0,U ⟨#[]⟩,Y Z 0 0,Y Z 0 0,ZC ZA] 198)).heap.size:=SA.lt;have hz1':z (A W0)<(B W0 (J #[U nm,Q I 0,U ⟨#[]⟩,Y Z 0 0,Y Z 0 0,ZC ZA] 198)).heap.size:=by omega
  clear I6
  go_upto_region 7 with (first
   |(at_builtin;refine bG _ rfl (.tmp 46) (.tmp 49) 115 rfl (z (A w0)) 198 im (ZG #[U ⟨#[]⟩,Q I 0,U ⟨#[]⟩,Y Z 0 0,Y Z 0 0,ZC ZA]) 6 96 underlying115 IK Jl DQ Hv rfl (by decide) (Y am n cm) n (L.flatMap smV) (by simp[Act.eval]) RM.out (N (z (A W0)) 0 Z) 1 1 [U nm,Q I 0,U ⟨#[]⟩,Y Z 0 0,Y Z 0 0,ZC ZA] (by simp[Act.eval]) rfl (Bq W0 _ _ _ _ _ _ _) (by simp[Value.oneCell']) (by unfold maxLen;omega) (by omega) IB ?_;intro v2 ZQ H o mv;have O2:=ae H;have G2:=ae o;have Ip:=ae (HG ZQ o);obtain⟨l,FM,cu2,rfl,IU⟩:=H.2.resolve_left (λh=>by omega);clear IU H o mv;obtain⟨ID,-,-,f2,-,-,-,-,-,-,ff⟩:=(ShBox.ad SA.ab Ip).K;have Jb:=ff 2;clear ff)
   |fail)
  have SX:=ae (SA.addL (m:=fu nm) (w':=ZQ) (v:=Y (T (N l 0 Z)) (n+1) FM) (by rw[<-HN.out];exact G2) (by rw[<-HN.out];exact O2) rfl);have S3:=ae SX.1;have K3:Hid (KS (z (A w0)) XN w (ZQ.setCell (N hb 2 Z) (Y (T (N l 0 Z)) (n+1) FM))):=((KS.q (X:=XN) A0 ly E).to (KS.q A1 ly S0.lt)).to SX.2;have Gx:Hid ((ZQ.setCell (N hb 2 Z) (Y (T (N l 0 Z)) (n+1) FM)).heap[z (A w)]?=T (J #[Q I 0,U ⟨#[]⟩,Y Z 0 0] 39 (0,0))):=by have ZI:=(A1.block _ (ag kr)).trans kr;exact(SX.2.ad _ _ _ _ ZI (by decide) (by decide) (by decide) λh=>h).trans ZI
  have fd:(L++[fu nm]).length=n+1:=by rw[eL,D0,<-HN.out]
  have ex:Hid ((L++[fu nm])[n]?=T (fu nm)):=by rw[HN.out];show _=_;rw[JP ly,Nat.sub_self];rfl
  clear SX f2 Jb ID b2 ZP RM SA A1 HG O2 G2 Ip;generalize World.setCell ZQ _ _=W3 at S3 K3 Gx ⊢;obtain⟨ZP,b0,b1,-⟩:=S3.ab.K;go_wp2_with fail;refine(gH a0 S.n0 c0 a1 S.n1 c1 S.f0 nm W3 (by omega) (CC.src.aa S3.X ly)).mono ?_;rintro e w4 ⟨he,hB⟩;rw[es] at he;subst he;have S4:=ae (S3.aa hB ly);have Hk:Hid (w4.heap[z (A w)]?=_):=(hB.block _ (ag Gx)).trans Gx;have K4:=ae (K3.to (KS.q (X:=XN) hB ly S3.lt));clear hB b0 b1 ZP S3 K3 Gx;obtain⟨ZP,b0,b1,-⟩:=S4.ab.K;go_wp2_with fail;refine(gI a0 S.n0 c0 a1 S.n1 c1 S.f1 nm w4 (by omega) (CC.j.aa S4.X ly)).mono ?_;rintro e ZN ⟨he,hB⟩;rw[et] at he;subst he;have S5:=ae (S4.aa hB ly);have sm:Hid (ZN.heap[z (A w)]?=T (J #[Q I 0,U ⟨#[]⟩,Y Z 0 0] 39 (0,0))):=(hB.block _ (ag Hk)).trans Hk;have K5:=ae (K4.to (KS.q (X:=XN) hB ly S4.lt));clear hB b0 b1 ZP S4 K4 Hk A0 S0 kr
 iterate 2
  ·first
    |guard_hyp GL
     have A5:=ae ((BS ZN).alloc ly (J #[Q I 4,U nm,Y Z 0 0] 39));have GE:=ae (S5.aa A5 ly);have hI0:(0:Int)<=(si:Int):=by omega
     have hI1:(si:Int)<(S.n0:Int):=by omega
     have q0:(B ZN (J #[Q I 4,U nm,Y Z 0 0] 39)).cell? (N hb 0 Z)=T (Y (T (N sb so Z)) S.n0 c0):=by have h:=GE.ab.K.2.1;rw[IX.out] at h;exact h
     have q1:(B ZN (J #[Q I 4,U nm,Y Z 0 0] 39)).cell? (N sb (so+si*2+1) Z)=T (U tx):=by rw[Ie.out];exact((GL.aa GE.X ly).2 si Jf).2
     have ZP:=S5.ab.K.1;have ql:sb<z (A ZN):=lj GL.1 S5.lt;go_upto_region 13 with fail;clear q0 q1 ql ZP A5 GE;obtain⟨ZS,Gk⟩:∃W:M,B ZN (J #[Q I 0,U tx,Y Z 0 0] 39)=W:=⟨_,rfl⟩
     obtain⟨A6,-,-⟩:=nb1 Gk;have Gg:=ae Gk;clear Gk;have ZJ:Hid (ZS.heap[z (A ZN)]?=T (J #[Q I f,U tx,Y Z 0 0] 39 (0,0))):=by rw[<-Gg.out];rw[Ia.out];exact gM _ _
     rw[Gg.out];clear Gg
    |skip
     go_upto_region 13 with fail;have ZJ:Hid ((B ZN (J #[Q I 4,U nm,Y Z 0 0] 39)).heap[z (A ZN)]?=T (J #[Q I f,U tx,Y Z 0 0] 39 (0,0))):=by rw[Ia.out,Ie.out];exact gM _ _
     have A6:=ae ((BS ZN).alloc ly (J #[Q I 4,U nm,Y Z 0 0] 39));generalize World.alloc ZN _=ZS at A6 ZJ ⊢
   have ZL:=ae (S5.aa A6 ly);have th:Hid (ZS.heap[z (A w)]?=T (J #[Q I 0,U ⟨#[]⟩,Y Z 0 0] 39 (0,0))):=(A6.block _ (ag sm)).trans sm;have K6:=ae (K5.to (KS.q (X:=XN) A6 ly S5.lt));obtain⟨s,Gb⟩:∃s,s=z (A ZN):=⟨_,rfl⟩
   rw[<-Gb] at ZJ ⊢;have Iy:z (A w)<=s:=by have:=K5.aa.size;omega
   clear Gb A6 S5 sm K5;obtain⟨ZP,-,-,b2,-⟩:=ZL.ab.K;obtain⟨rl,r0,r1,r2,-⟩:=bw ZJ;obtain⟨Iw,IG,Gr,Fk⟩:=af ZL.W l rfl;have DE:=ae Fk;have R6:=ae (by have h:=ZL.W;rw[fd] at h;exact h);have q1:ZS.cell? (N l (n*6+1) Z)=T (Q I 0):=bW (by rw[fd];exact R6) ex 1 (by omega) rfl;have q2:ZS.cell? (N l (n*6+1+1) Z)=T (U ⟨#[]⟩):=bW (by rw[fd];exact R6) ex 2 (by omega) rfl;have q3:ZS.cell? (N l (n*6+1+2) Z)=T (Y Z 0 0):=bW (by rw[fd];exact R6) ex 3 (by omega) rfl;have qf:∀j,ZS.frozen? (N l j Z)=ZA:=λj=>by simp[World.frozen?,Fk]
   have GQ:=qf (n*6+1);have He:=qf (n*6+1+1);have Hd:=qf (n*6+1+2);clear qf Fk;have I9:(n:Int)<(n:Int)+1:=by omega
   have n8:l≠hb:=by intro e;have h:=DE.out;rw[e] at h;exact absurd (ah h ZL.ab) (by decide)
   have r:l≠s:=by intro e;have h:=DE.out;rw[e] at h;exact absurd (ah h ZJ) (by decide)
   refine wp_region_held_drew (S:=λV=>V.cell? (N hb 2 Z)=T (Y (T (N l 0 Z)) (n+1) FM)/\V.cell? (N s 0 Z)=T (Q I f)/\V.cell? (N s 1 Z)=T (U tx)/\V.cell? (N s 2 Z)=T (Y Z 0 0)) (by kernel_rfl) ⟨b2,r0,r1,r2⟩ λhS=>?_;have HS:=ae hS;clear hS
   iterate 8
    first|refine aR 0 (v:=?_) rfl rfl (by kernel_rfl) (λ_ _ _ h=>h) rfl ?_ HS ?_|refine aR 4 (v:=?_) rfl rfl (by kernel_rfl) (λ_ _ _ h=>h) rfl ?_ HS ?_
    rotate_left
    ·(rintro wz ⟨s0,s1,s2,s3⟩;go_simp)
     (try with_reducible rfl)
    (try simp only[Act.put,nzL])
   have TL:=ae (ZL.told fd ex rfl f tx)
   have F7:Hid ((((ZS.setCell (N l (n*6+1) Z) (Q I f)).setCell (N l (n*6+1+1) Z) (U tx)).setCell (N l (n*6+1+2) Z) (Y Z 0 0)).drew.cell? (N hb 2 Z)=T (Y (T (N l 0 Z)) (n+1) FM)/\(((ZS.setCell (N l (n*6+1) Z) (Q I f)).setCell (N l (n*6+1+1) Z) (U tx)).setCell (N l (n*6+1+2) Z) (Y Z 0 0)).drew.cell? (N s 0 Z)=T (Q I f)/\(((ZS.setCell (N l (n*6+1) Z) (Q I f)).setCell (N l (n*6+1+1) Z) (U tx)).setCell (N l (n*6+1+2) Z) (Y Z 0 0)).drew.cell? (N s 1 Z)=T (U tx)/\(((ZS.setCell (N l (n*6+1) Z) (Q I f)).setCell (N l (n*6+1+1) Z) (U tx)).setCell (N l (n*6+1+2) Z) (Y Z 0 0)).drew.cell? (N s 2 Z)=T (Y Z 0 0)) :=
    ⟨(cell_far _ _ _ _ n8).trans ((cell_far _ _ _ _ n8).trans ((cell_far _ _ _ _ n8).trans b2)),(cell_far _ _ _ _ r).trans ((cell_far _ _ _ _ r).trans ((cell_far _ _ _ _ r).trans r0)),(cell_far _ _ _ _ r).trans ((cell_far _ _ _ _ r).trans ((cell_far _ _ _ _ r).trans r1)),(cell_far _ _ _ _ r).trans ((cell_far _ _ _ _ r).trans ((cell_far _ _ _ _ r).trans r2))⟩
   refine aI (i:=8) rfl (by kernel_rfl) λK hK=>?_;go_simp;refine hK _ _ F7 ?_;clear hK K HS q1 q2 q3 GQ He Hd b2 r0 r1 r2 rl
   (try simp only[Act.put])
   refine wpAnyH_done (by kernel_rfl) ?_ _;have D7:Hid (Below (((ZS.setCell (N l (n*6+1) Z) (Q I f)).setCell (N l (n*6+1+1) Z) (U tx)).setCell (N l (n*6+1+2) Z) (Y Z 0 0)).heap.size (((ZS.setCell (N l (n*6+1) Z) (Q I f)).setCell (N l (n*6+1+1) Z) (U tx)).setCell (N l (n*6+1+2) Z) (Y Z 0 0)) (((ZS.setCell (N l (n*6+1) Z) (Q I f)).setCell (N l (n*6+1+1) Z) (U tx)).setCell (N l (n*6+1+2) Z) (Y Z 0 0)).drew):=br.drew;have S7:=ae (TL.1.aa D7 ly);have K7:=ae (K6.to (TL.2.1.to (KS.q (X:=XN) D7 ly TL.1.lt)));have FY:=TL.2.2.1;have Ge:=TL.2.2.2;have P:Hid ((((ZS.setCell (N l (n*6+1) Z) (Q I f)).setCell (N l (n*6+1+1) Z) (U tx)).setCell (N l (n*6+1+2) Z) (Y Z 0 0)).drew.heap[z (A w)]?=T (J #[Q I 0,U ⟨#[]⟩,Y Z 0 0] 39 (0,0))):=by have ZI:=(TL.2.1.ad _ _ _ _ th (by decide) (by decide) (by decide) λh=>h).trans th;exact ZI
   have n9:Hid ((((ZS.setCell (N l (n*6+1) Z) (Q I f)).setCell (N l (n*6+1+1) Z) (U tx)).setCell (N l (n*6+1+2) Z) (Y Z 0 0)).drew.heap[s]?=T (J #[Q I f,U tx,Y Z 0 0] 39 (0,0))):=by have ZI:=(TL.2.1.ad _ _ _ _ ZJ (by decide) (by decide) (by decide) λh=>h).trans ZJ;exact ZI
   have FK:=ae FY;have Fm:=ae Ge;clear TL F7 FY Ge th ZJ K6 ZL R6 DE D7;generalize World.drew (World.setCell (World.setCell (World.setCell ZS _ _) _ _) _ _)=W7 at S7 K7 P n9 ⊢;obtain⟨ZP,-,-,b2,-⟩:=S7.ab.K;obtain⟨Gq,Gt,Is,ur⟩:=af S7.W l rfl;have q5:W7.cell? (N l (n*6+5) Z)=T (ZC ZA):=bW (by have h:=S7.W;rw[Fm.out] at h ⊢;exact h) FK 5 (by omega) rfl;have GA:W7.frozen? (N l (n*6+5) Z)=ZA:=by simp[World.frozen?,ur]
   have TD:=ae (S7.upd' Fm FK (j:=5) (by omega) (u:=ZC ZF) (m':=⟨nm,f,tx,[],Y Z 0 0,ZF⟩) rfl (λ_=>⟨rfl,.inl ⟨rfl,rfl⟩⟩));have D:Hid ((W7.setCell (N l (n*6+5) Z) (ZC ZF)).heap[z (A w)]?=T (J #[Q I 0,U ⟨#[]⟩,Y Z 0 0] 39 (0,0))):=(TD.2.1.ad _ _ _ _ P (by decide) (by decide) (by decide) λh=>h).trans P;have aq:Hid ((W7.setCell (N l (n*6+5) Z) (ZC ZF)).heap[s]?=T (J #[Q I f,U tx,Y Z 0 0] 39 (0,0))):=(TD.2.1.ad _ _ _ _ n9 (by decide) (by decide) (by decide) λh=>h).trans n9;have S8:=ae TD.1;have K8:=ae (K7.to TD.2.1);clear ur;go_upto_region 15 with fail;clear b2 q5 GA TD S7 K7 P n9;generalize World.setCell W7 _ _=ZO at S8 K8 D aq ⊢;obtain⟨ao,co,rfl⟩:=iT S8.ror;obtain⟨q,hq⟩:∃q,q=made.length:=⟨_,rfl⟩
   have HQ:=ae hq;rw[<-hq] at Im;clear hq;obtain⟨ZP,-,-,-,b3,-⟩:=S8.ab.K;rw[<-HQ.out] at b3;have O:=ae ((BS ZO).alloc ly (J #[U nm] 9));have S9:=ae (S8.aa O ly);have RO:=ae (by have h:=S9.ror;rw[<-HQ.out] at h;exact h);have Gj:z (A w0)<=(B ZO (J #[U nm] 9)).heap.size:=S9.lt;have HG:Hid (∀ZQ:M,(B ZO (J #[U nm] 9)).grownBy ZQ (Value.slice ao q co).ownBlock->ZQ.heap[hb]?=(B ZO (J #[U nm] 9)).heap[hb]?/\ZQ.heap[z (A w)]?=(B ZO (J #[U nm] 9)).heap[z (A w)]?/\ZQ.heap[s]?=(B ZO (J #[U nm] 9)).heap[s]?):=λZQ hg=>by
    have bt:∀(i:Nat) (cs:Array ZB) (t:ZH) (fz:Nat × Nat),(B ZO (J #[U nm] 9)).heap[i]?=T (Obj.cells cs t fz)->t≠9->ZQ.heap[i]?=(B ZO (J #[U nm] 9)).heap[i]?:=λi cs t fz hi ht=>hg.block i (ag hi) λe=>by obtain⟨_,_,Gr,hc⟩:=af RO i e.symm;exact ht (ah hi hc)
    exact⟨bt _ _ _ _ S9.ab (by decide),bt _ _ _ _ ((O.block _ (ag D)).trans D) (by decide),bt _ _ _ _ ((O.block _ (ag aq)).trans aq) (by decide)⟩
   have F9:Hid ((B ZO (J #[U nm] 9)).heap[z (A w)]?=T (J #[Q I 0,U ⟨#[]⟩,Y Z 0 0] 39 (0,0))):=(O.block _ (ag D)).trans D;have GO:Hid ((B ZO (J #[U nm] 9)).heap[s]?=T (J #[Q I f,U tx,Y Z 0 0] 39 (0,0))):=(O.block _ (ag aq)).trans aq;have hbw:¬ hb=z (A w):=λe=>by have h:=S8.ab;unfold ShBox at h;rw[e] at h;exact absurd (ah h D) (by decide)
   have DS:¬ (z (A w))=hb:=λe=>hbw e.symm;have Hu:¬ hb=s:=λe=>by have h:=S8.ab;unfold ShBox at h;rw[e] at h;exact absurd (ah h aq) (by decide)
   have IC:¬ s=hb:=λe=>Hu e.symm
   go_wp2_with (first
    |(at_builtin;refine bG _ rfl (.tmp 100) (.tmp 102) 30 rfl (z (A w0)) 9 i1 (U ⟨#[]⟩) 1 16 JD Hn G8 Hx Hb rfl (by decide) (Y ao q co) q (bo (made.map (·.e))) (by simp[Act.eval]) RO.out (N (z (A ZO)) 0 Z) 1 1 [U nm] (by simp[Act.eval]) rfl (nH ZO _ _) (by simp[Value.oneCell']) (by unfold maxLen;omega) (by omega) Gj ?_;intro v9 w9 H o mv;have O9:=ae H;have G9:=ae o;have Hw:=ae mv;have qr:=ae (HG w9 o);obtain⟨g9,c9,IW,rfl,Hf⟩:=H.2.resolve_left (λh=>by omega);clear Hf H o mv;obtain⟨Iu,-,-,-,f3,-,-,-,-,-,ff⟩:=(ShBox.ad S9.ab qr.1).K;have Ji:=ff 3;obtain⟨rl,r0,r1,r2,rf⟩:=bw (qr.2.1.trans F9);have Ha:=rf 0;have GM:=rf 1;have Hc:=rf 2;obtain⟨pl,p0,p1,p2,pf⟩:=bw (qr.2.2.trans GO);clear ff rf pf)
    |fail)
   have FX:=ae (S9.ord (x:=⟨nm,kd,0,te,0,[]⟩) (w':=w9) (v:=Y (T (N g9 0 Z)) (q+1) c9) (by rw[<-HQ.out];exact G9) (by rw[<-HQ.out];exact O9) (by rw[<-HQ.out];exact Hw));refine bp (v:=ZG #[Q I f,U tx,Y Z 0 0]) (by simp[results,MY,go_sem,r0,r1,r2]) rfl ?_;have F0:=(qh w9 (N hb 3 Z) (Y (T (N g9 0 Z)) (q+1) c9) (z (A w)) DS).trans (qr.2.1.trans F9);refine⟨Y (T (N l 0 Z)) (n+1) FM,Y (T (N g9 0 Z)) (q+1) c9,rfl,?_,?_⟩
   ·rw[<-HN.out]
    have x0:=FX.1;rw[QO] at x0;replace x0:=x0.R F0 ⟨by decide,by decide,by decide,by decide⟩ E 0 (Q I f);have y0:=au F0 (j:=0) (Q I f);have x1:=x0.R y0 ⟨by decide,by decide,by decide,by decide⟩ E 1 (U tx);exact x1.R (au y0 (j:=1) (U tx)) ⟨by decide,by decide,by decide,by decide⟩ E 2 (Y Z 0 0)
   ·have k0:=(K8.to (KS.q (X:=XN) O ly S8.lt)).to FX.2
    exact((k0.fresh ly E 0 _).fresh ly E 1 _).fresh ly E 2 _
 all_goals
  obtain⟨ZP,-,-,-,-,b4,b5,b6,b7,b8,bf⟩:=S5.ab.K;have Hj:=bf 4;have Jj:=bf 5;have Jo:=bf 6;have Js:=bf 7;have IQ:=bf 8;rw[<-ld.out] at b4;clear bf;go_wp2_with fail;go_loop [9] (λi=>∃j:Nat,j<=ms/\i=Q I j) (λi=>ms - (intOf i).toNat);case atStart=>exact⟨0,by omega,rfl⟩
  case' round =>
  obtain⟨j,hj,rfl⟩:=hrel;by_cases hlt:j<ms
  ·obtain⟨y,hy⟩:∃y,making[j]?=T y:=⟨_,gq (by have:=ld.out;omega)⟩
   obtain⟨gs,cs,cus,ev,-⟩:=S5.rst.2.resolve_left (λh=>by have:=ld.out;omega);rw[<-ld.out] at ev;cases ev
   have dj:ZN.cell? (N gs j Z)=T (U y):=tv S5.rst hy;have hjm:(j:Int)<(ms:Int):=by omega
   have Ik:=ae (Jt j y hy);clear hy;have bt:=Ik.out;go_wp2;exact⟨⟨j+1,by omega,by go_num⟩,by simp[intOf];omega⟩
  obtain rfl:j=ms:=by omega
 ·have hI60:¬ (60:Int)<=(j:Int):=by omega
  clear b5 b6 b7 b8 Jj Jo Js IQ;have A6:=ae ((BS ZN).alloc ly (J #[U nm] 9));have ZL:=ae (S5.aa A6 ly);have RS:=ae (by have h:=ZL.rst;rw[<-ld.out] at h;exact h);have GC:z (A w0)<=(B ZN (J #[U nm] 9)).heap.size:=ZL.lt;obtain⟨q0,aa,ca,q1,-⟩:=(Gl.aa ZL.X ly).2 tg ro;obtain⟨-,aa',ca',Io,Gy⟩:=Gl.2 tg ro;have Gh:=Gl.1;have e1:=(ZL.X.cell (p:=(N tb (H6+tg*2+1) Z)) Gh).trans Io;rw[q1] at e1;simp only[JE,JG,P6] at e1;obtain⟨rfl,rfl⟩:=e1;have Jd:=ae Gy;have Q1:=ae q1;clear q0 q1 Io Gy;have GI:Hid ((B ZN (J #[U nm] 9)).heap[z (A w)]?=T (J #[Q I 0,U ⟨#[]⟩,Y Z 0 0] 39 (0,0))):=(A6.block _ (ag sm)).trans sm;have HG:Hid (∀ZQ:M,(B ZN (J #[U nm] 9)).grownBy ZQ (Value.slice H7 j Ig).ownBlock->ZQ.heap[hb]?=(B ZN (J #[U nm] 9)).heap[hb]?/\ZQ.heap[tb]?=(B ZN (J #[U nm] 9)).heap[tb]?):=λZQ hg=>by
   refine⟨hg.block hb (ag ZL.ab) λe=>?_,hg.block tb (lj Gh GC) λe=>?_⟩;{obtain⟨_,_,Gr,hc⟩:=af RS hb e.symm;exact absurd (ah ZL.ab hc) (by decide)};{have:=(af RS tb e.symm).1;omega}
  have I7:z (A w0)<=hb:=S5.hbB;have htbh:¬ tb=hb:=by omega
  have htbh':¬ hb=tb:=by omega
  have htI:(tg:Int)<(S.n1:Int):=by omega
  go_wp2_with (first
   |(at_builtin;refine bG _ rfl (.tmp 166) (.tmp 168) 30 rfl (z (A w0)) 9 i1 (U ⟨#[]⟩) 1 16 JD Hn G8 Hx Hb rfl (by decide) (Y H7 j Ig) j (bo making) (by simp[Act.eval]) RS.out (N (z (A ZN)) 0 Z) 1 1 [U nm] (by simp[Act.eval]) rfl (nH ZN _ _) (by simp[Value.oneCell']) (by unfold maxLen;omega) (by omega) GC ?_;intro v7 w7 H o mv;have O7:=ae H;have G7:=ae o;have H9:=ae mv;have Hq:=ae (HG w7 o);obtain⟨g7,c7,cu7,rfl,Jr⟩:=H.2.resolve_left (λh=>by omega);clear Jr H o mv;obtain⟨Hr,-,f1,-,-,f4,-,-,-,-,ff⟩:=(ShBox.ad ZL.ab Hq.1).K;have Jc:=ff 4;rw[Jk.out] at f1;have f9:=(cq (a:=(N tb (H6+tg*2+1) Z)) Hq.2).trans Q1.out;have Jh:tb<z (A w7):=(lj (lj Gh I7) (NH Hr));clear ff)
   |fail)
  have SP:=ae (ZL.push (nm:=nm) (w':=w7) (v:=Y (T (N g7 0 Z)) (j+1) c7) (by rw[<-ld.out];exact G7) (by rw[<-ld.out];exact O7) (by rw[<-ld.out];exact H9));have S7:=ae SP.1;have K7:Hid (KS (z (A w0)) XN w (w7.setCell (N hb 4 Z) (Y (T (N g7 0 Z)) (j+1) c7))):=(K5.to (KS.q (X:=XN) A6 ly S5.lt)).to SP.2;have P:Hid ((w7.setCell (N hb 4 Z) (Y (T (N g7 0 Z)) (j+1) c7)).heap[z (A w)]?=T (J #[Q I 0,U ⟨#[]⟩,Y Z 0 0] 39 (0,0))):=(SP.2.ad _ _ _ _ GI (by decide) (by decide) (by decide) λh=>h).trans GI;clear SP f1 f4 f9 Jc Hr Jh O7 G7 H9 Hq HG RS ZL A6 GI Q1 S5 K5 sm b4 Hj ZP;generalize World.setCell w7 _ _=W7 at S7 K7 P ⊢;refine(GF W7 _ _ _ aa ca S7 Jd).mono ?_;clear GF;rintro e w8 FU;rcases R with ⟨G,x⟩|c|d
  ·obtain⟨L1,md1,Jn,st1,gx,cx,rfl,Gc,Bk,Gn,IE,Ho,ph⟩:=FU;obtain⟨Iv,GT⟩:=Ic.out G x rfl;clear Ic;obtain⟨f,Fd⟩:∃f,f=x.1.E:=⟨_,rfl⟩
   obtain⟨ZT,GJ⟩:∃ZT,ZT=x.1.y:=⟨_,rfl⟩
   obtain⟨ls,Gw⟩:∃ls,ls=x.2:=⟨_,rfl⟩
   obtain⟨ln,Gm⟩:∃ln,ln=ls.length:=⟨_,rfl⟩
   have GU:jq nm tg (.inl (G,x))=.inl ((G++[⟨nm,3,f,ZT,tg,ls⟩]),⟨nm,3,f,ZT,tg,ls⟩):=by rw[Fd,GJ,Gw];rfl
   have IJ:=ae GU;rw[<-Gw,<-Gm] at Gn;rw[<-Fd,<-GJ,<-Gw,<-Gm];clear GU Fd GJ Gw;have Iz:=ae Gm;clear Gm;obtain⟨m1,DQ,CD⟩:=Ho.nam n (fu nm) ex;replace CD:m1.e=nm:=CD;have IZ:Hid (m1.done=ZA):=by
    obtain⟨m2,Hv,e2,e3⟩:=Bk.mkg nm (LK _ (hU.2 rfl));obtain⟨i2,Ht⟩:=LF Hv;have e4:=vw Bk.nod Ht DQ (e2.trans CD.symm);rw[e4,DQ] at Ht;cases Ht
    exact e3
   have ex:=ae DQ;obtain⟨ZM,hN⟩:∃ZM,ZM=L1.length:=⟨_,rfl⟩
   have fd:L1.length=ZM:=hN.symm;have hnN:n<ZM:=by rw[hN];exact(p9.1 DQ).1
   obtain⟨g,FZ,cum,rfl,-⟩:=Gc.W.2.resolve_left (λh=>by omega);obtain⟨gp,ZK,cup,rfl,Ii⟩:=Gc.rst.2.resolve_left (λh=>by rw[eL,D0] at h;omega);have hcp:j+1<=ZK:=by have:=Ii.2.2.1;rw[eL,D0,<-ld.out] at this;exact this
   rw[fd,eL,D0,<-ld.out] at Gc;have KW:=ae (K7.to ph);have D:Hid (w8.heap[z (A w)]?=T (J #[Q I 0,U ⟨#[]⟩,Y Z 0 0] 39 (0,0))):=(ph.ad _ _ _ _ P (by decide) (by decide) (by decide) λh=>h).trans P;have GH:z (A w)<=z (A W7):=K7.aa.size;have X8:=ae (((LExt.add (z (A w)) L (m:=fu nm) rfl).trans Ho GH));have I5:Hid (z (A w)<=gx):=nD GH (af Gn gx rfl).1;have IP:=ae (aC Gn (nD E GH));have IF:=ae Bk;have hw8:z (A w)<=z (A w8):=KW.aa.size;have Hg:=ae Gc;have Hs:=ae CD;have II:=ae GT;clear Gc Bk Gn IE Ho ph CD DQ GT Ii S7 K7 P hN;have O:=ae ((BS w8).alloc ly (J #[Q I f,U ZT,Y Z 0 0] 39));have ZJ:Hid ((B w8 (J #[Q I f,U ZT,Y Z 0 0] 39)).heap[z (A w8)]?=T (J #[Q I f,U ZT,Y Z 0 0] 39 (0,0))):=gM _ _;have Gu:=ae (Hg.aa O ly);have K9:=ae (KS.q (X:=XN) O ly Hg.lt);have Gs:Hid ((B w8 (J #[Q I f,U ZT,Y Z 0 0] 39)).heap[z (A w)]?=T (J #[Q I 0,U ⟨#[]⟩,Y Z 0 0] 39 (0,0))):=(O.block _ (ag D)).trans D;go_upto_region 30 with fail;generalize World.alloc w8 _=W9 at O ZJ Gu K9 Gs ⊢;obtain⟨s,Gb⟩:∃s,s=z (A w8):=⟨_,rfl⟩
   rw[<-Gb] at ZJ ⊢;have Iy:z (A w)<=s:=by omega
   clear Gb O Hg D;obtain⟨ZP,-,-,-,-,b4,-,-,-,b8,bf⟩:=Gu.ab.K;have Hj:=bf 4;clear bf;go_upto_region 32 with fail;have IM:IntKind.i64.wrap (j:Int)=(j:Int):=Fv (by omega) (by omega);have I8:(0:Int)<=(j:Int):=by omega
   have Ja:(j:Int)<=(ZK:Int):=by omega
   refine aD (λV=>V.cell? (N hb 4 Z)=T (Y (T (N gp 0 Z)) (j+1) ZK)) 14 (by kernel_rfl) ?_;have HS:Hid (W9.drew.cell? (N hb 4 Z)=T (Y (T (N gp 0 Z)) (j+1) ZK)):=b4;iterate 10
    refine aH 0 (v:=?_) rfl rfl (by kernel_rfl) (λ_ _ _ h=>h) rfl ?_ HS ?_;rotate_left
    ·(intro wz s0;go_simp)
     (try with_reducible rfl)
    (try simp only[Act.put,nzL])
   refine eP (i:=10) (v:=Q I (j:Int)) rfl (by kernel_rfl) (by kernel_rfl) (by kernel_rfl) (by kernel_rfl) (λ_ _ _ h=>h) rfl ?_ HS ?_;{intro wz s0;go_simp}
   (try simp only[Act.put,nzL])
   refine eP (i:=11) (v:=Y (T (N gp 0 Z)) j ZK) rfl (by kernel_rfl) (by kernel_rfl) (by kernel_rfl) (by kernel_rfl) (λ_ _ _ h=>h) rfl ?_ HS ?_;{intro wz s0;go_simp}
   (try simp only[Act.put,nzL])
   iterate 2
    refine bH 12 rfl rfl (by kernel_rfl) λK hK=>?_;go_simp;refine hK _ _ (λ_=>HS) ?_;clear hK K
    (try simp only[Act.put,nzL])
   have PP:Hid (SI w0 hb (Y a0 S.n0 c0) (Y a1 S.n1 c1) (W9.setCell (N hb 4 Z) (Y (T (N gp 0 Z)) j ZK)) making G L1 (Y (T (N g 0 Z)) ZM FZ) Jn (Y (T (N gp 0 Z)) j ZK)/\KS (z (A w0)) XN W9 (W9.setCell (N hb 4 Z) (Y (T (N gp 0 Z)) j ZK))):=by have h:=Gu.out;rw[ld.out] at h ⊢;exact h.pop
   refine ai (i:=14) rfl (by kernel_rfl) λK hK=>?_;go_simp;refine hK _ _ (λh=>absurd rfl h) ?_;clear hK K HS b4 Hj b8
   (try simp only[Act.put])
   refine aT (by kernel_rfl) ?_ _;have D6:Hid (Below (W9.setCell (N hb 4 Z) (Y (T (N gp 0 Z)) j ZK)).heap.size (W9.setCell (N hb 4 Z) (Y (T (N gp 0 Z)) j ZK)) (W9.setCell (N hb 4 Z) (Y (T (N gp 0 Z)) j ZK)).drew):=br.drew;have ZL:=ae (PP.1.aa D6 ly);have K6:=ae ((K9.to PP.2).to (KS.q (X:=XN) D6 ly PP.1.lt));have th:Hid ((W9.setCell (N hb 4 Z) (Y (T (N gp 0 Z)) j ZK)).drew.heap[z (A w)]?=T (J #[Q I 0,U ⟨#[]⟩,Y Z 0 0] 39 (0,0))):=(PP.2.ad _ _ _ _ Gs (by decide) (by decide) (by decide) λh=>h).trans Gs;have GW:Hid ((W9.setCell (N hb 4 Z) (Y (T (N gp 0 Z)) j ZK)).drew.heap[s]?=T (J #[Q I f,U ZT,Y Z 0 0] 39 (0,0))):=(PP.2.ad _ _ _ _ ZJ (by decide) (by decide) (by decide) λh=>h).trans ZJ;clear PP D6 Gu K9 Gs ZJ IM I8 Ja ZP;generalize World.drew (World.setCell W9 _ _)=ZS at ZL K6 th GW ⊢;have ZJ:=ae GW.out;clear GW;go_upto_region 33 with fail;obtain⟨ZP,-,-,b2,-⟩:=ZL.ab.K;obtain⟨rl,r0,r1,r2,-⟩:=bw ZJ;obtain⟨Iw,IG,Gr,Fk⟩:=af ZL.W g rfl;have DE:=ae Fk;have R6:Hid (ZS.ownsRow (z (A w0)) 198 6 (Y (T (N g 0 Z)) ZM FZ) ZM (L1.flatMap smV)):=by have h:=ZL.W;rw[fd] at h;exact h
   have q1:ZS.cell? (N g (n*6+1) Z)=T (Q I m1.E):=bW (by rw[fd];exact R6) ex 1 (by omega) rfl;have q2:ZS.cell? (N g (n*6+1+1) Z)=T (U m1.y):=bW (by rw[fd];exact R6) ex 2 (by omega) rfl;have q3:ZS.cell? (N g (n*6+1+2) Z)=T (Y Z 0 0):=bW (by rw[fd];exact R6) ex 3 (by omega) rfl;have qf:∀j,ZS.frozen? (N g j Z)=ZA:=λj=>by simp[World.frozen?,Fk]
   have GQ:=qf (n*6+1);have He:=qf (n*6+1+1);have Hd:=qf (n*6+1+2);clear qf Fk;have I9:(n:Int)<(ZM:Int):=by omega
   have n8:g≠hb:=by intro e;have h:=DE.out;rw[e] at h;exact absurd (ah h ZL.ab) (by decide)
   have r:g≠s:=by intro e;have h:=DE.out;rw[e] at h;exact absurd (ah h ZJ) (by decide)
   refine wp_region_held_drew (S:=λV=>V.cell? (N hb 2 Z)=T (Y (T (N g 0 Z)) ZM FZ)/\V.cell? (N s 0 Z)=T (Q I f)/\V.cell? (N s 1 Z)=T (U ZT)/\V.cell? (N s 2 Z)=T (Y Z 0 0)) (by kernel_rfl) ⟨b2,r0,r1,r2⟩ λhS=>?_;have HS:=ae hS;clear hS;iterate 8
    first|refine aR 0 (v:=?_) rfl rfl (by kernel_rfl) (λ_ _ _ h=>h) rfl ?_ HS ?_|refine aR 4 (v:=?_) rfl rfl (by kernel_rfl) (λ_ _ _ h=>h) rfl ?_ HS ?_
    rotate_left
    ·(rintro wz ⟨s0,s1,s2,s3⟩;go_simp)
     (try with_reducible rfl)
    (try simp only[Act.put,nzL])
   have TL:=ae (ZL.told fd ex IZ f ZT);have F7:Hid ((((ZS.setCell (N g (n*6+1) Z) (Q I f)).setCell (N g (n*6+1+1) Z) (U ZT)).setCell (N g (n*6+1+2) Z) (Y Z 0 0)).drew.cell? (N hb 2 Z)=T (Y (T (N g 0 Z)) ZM FZ)/\(((ZS.setCell (N g (n*6+1) Z) (Q I f)).setCell (N g (n*6+1+1) Z) (U ZT)).setCell (N g (n*6+1+2) Z) (Y Z 0 0)).drew.cell? (N s 0 Z)=T (Q I f)/\(((ZS.setCell (N g (n*6+1) Z) (Q I f)).setCell (N g (n*6+1+1) Z) (U ZT)).setCell (N g (n*6+1+2) Z) (Y Z 0 0)).drew.cell? (N s 1 Z)=T (U ZT)/\(((ZS.setCell (N g (n*6+1) Z) (Q I f)).setCell (N g (n*6+1+1) Z) (U ZT)).setCell (N g (n*6+1+2) Z) (Y Z 0 0)).drew.cell? (N s 2 Z)=T (Y Z 0 0)) :=
    ⟨(cell_far _ _ _ _ n8).trans ((cell_far _ _ _ _ n8).trans ((cell_far _ _ _ _ n8).trans b2)),(cell_far _ _ _ _ r).trans ((cell_far _ _ _ _ r).trans ((cell_far _ _ _ _ r).trans r0)),(cell_far _ _ _ _ r).trans ((cell_far _ _ _ _ r).trans ((cell_far _ _ _ _ r).trans r1)),(cell_far _ _ _ _ r).trans ((cell_far _ _ _ _ r).trans ((cell_far _ _ _ _ r).trans r2))⟩
   refine aI (i:=8) rfl (by kernel_rfl) λK hK=>?_;go_simp;refine hK _ _ F7 ?_;clear hK K HS q1 q2 q3 GQ He Hd b2 r0 r1 r2 rl
   (try simp only[Act.put])
   refine wpAnyH_done (by kernel_rfl) ?_ _;have D7:Hid (Below (((ZS.setCell (N g (n*6+1) Z) (Q I f)).setCell (N g (n*6+1+1) Z) (U ZT)).setCell (N g (n*6+1+2) Z) (Y Z 0 0)).heap.size (((ZS.setCell (N g (n*6+1) Z) (Q I f)).setCell (N g (n*6+1+1) Z) (U ZT)).setCell (N g (n*6+1+2) Z) (Y Z 0 0)) (((ZS.setCell (N g (n*6+1) Z) (Q I f)).setCell (N g (n*6+1+1) Z) (U ZT)).setCell (N g (n*6+1+2) Z) (Y Z 0 0)).drew):=br.drew;have S7:=ae (TL.1.aa D7 ly);have K7:=ae (K6.to (TL.2.1.to (KS.q (X:=XN) D7 ly TL.1.lt)));have FY:=TL.2.2.1;have Ge:=TL.2.2.2;have P:Hid ((((ZS.setCell (N g (n*6+1) Z) (Q I f)).setCell (N g (n*6+1+1) Z) (U ZT)).setCell (N g (n*6+1+2) Z) (Y Z 0 0)).drew.heap[z (A w)]?=T (J #[Q I 0,U ⟨#[]⟩,Y Z 0 0] 39 (0,0))):=by have ZI:=(TL.2.1.ad _ _ _ _ th (by decide) (by decide) (by decide) λh=>h).trans th;exact ZI
   have n9:Hid ((((ZS.setCell (N g (n*6+1) Z) (Q I f)).setCell (N g (n*6+1+1) Z) (U ZT)).setCell (N g (n*6+1+2) Z) (Y Z 0 0)).drew.heap[s]?=T (J #[Q I f,U ZT,Y Z 0 0] 39 (0,0))):=by have ZI:=(TL.2.1.ad _ _ _ _ ZJ (by decide) (by decide) (by decide) λh=>h).trans ZJ;exact ZI
   have FK:=ae FY;have Fm:=ae Ge;clear TL F7 FY Ge th ZJ K6 ZL R6 DE D7;generalize World.drew (World.setCell (World.setCell (World.setCell ZS _ _) _ _) _ _)=W7 at S7 K7 P n9 ⊢;have OS:=ae IP.out;obtain⟨ZP,-,-,b2,-⟩:=S7.ab.K;obtain⟨Gq,Gt,Is,ur⟩:=af S7.W g rfl;have q4:W7.cell? (N g (n*6+4) Z)=T m1.sv:=bW (by have h:=S7.W;rw[Fm.out] at h ⊢;exact h) FK 4 (by omega) rfl;have Je:W7.frozen? (N g (n*6+4) Z)=ZA:=by simp[World.frozen?,ur]
   have TD:=ae (S7.upd' Fm FK (j:=4) (by omega) (u:=Y (T (N gx 0 Z)) ln cx) (m':=⟨m1.e,f,ZT,ls,Y (T (N gx 0 Z)) ln cx,ZA⟩) rfl (λh=>by cases h));have FV:Hid ((W7.setCell (N g (n*6+4) Z) (Y (T (N gx 0 Z)) ln cx)).heap[z (A w)]?=T (J #[Q I 0,U ⟨#[]⟩,Y Z 0 0] 39 (0,0))):=(TD.2.1.ad _ _ _ _ P (by decide) (by decide) (by decide) λh=>h).trans P;have FW:Hid ((W7.setCell (N g (n*6+4) Z) (Y (T (N gx 0 Z)) ln cx)).heap[s]?=T (J #[Q I f,U ZT,Y Z 0 0] 39 (0,0))):=(TD.2.1.ad _ _ _ _ n9 (by decide) (by decide) (by decide) λh=>h).trans n9;have FO:=ae TD.1;have Gv:=ae (K7.to TD.2.1);have Hl:=ae TD.2.2.1;have Hi:=ae TD.2.2.2;clear ur;go_upto_region 35 with fail;clear b2 q4 Je TD S7 K7 P n9 FK Fm;generalize World.setCell W7 _ _=F8 at FO Gv FV FW ⊢;have Jq:=ae (Fa OS Gv);obtain⟨ZP,-,-,b2,-⟩:=FO.ab.K;obtain⟨Gq,Gt,Is,ur⟩:=af FO.W g rfl;have q5:F8.cell? (N g (n*6+5) Z)=T (ZC ZA):=bW (by have h:=FO.W;rw[Hi.out] at h ⊢;exact h) Hl 5 (by omega) rfl;have GA:F8.frozen? (N g (n*6+5) Z)=ZA:=by simp[World.frozen?,ur]
   have TD:=ae (FO.upd' Hi Hl (j:=5) (by omega) (u:=ZC ZF) (m':=⟨m1.e,f,ZT,ls,Y (T (N gx 0 Z)) ln cx,ZF⟩) rfl (λ_=>(by rw[<-Iz.out];exact Jq)));have D:Hid ((F8.setCell (N g (n*6+5) Z) (ZC ZF)).heap[z (A w)]?=T (J #[Q I 0,U ⟨#[]⟩,Y Z 0 0] 39 (0,0))):=(TD.2.1.ad _ _ _ _ FV (by decide) (by decide) (by decide) λh=>h).trans FV;have aq:Hid ((F8.setCell (N g (n*6+5) Z) (ZC ZF)).heap[s]?=T (J #[Q I f,U ZT,Y Z 0 0] 39 (0,0))):=(TD.2.1.ad _ _ _ _ FW (by decide) (by decide) (by decide) λh=>h).trans FW;have S8:=ae TD.1;have K8:=ae (Gv.to TD.2.1);clear ur;go_upto_region 36 with fail;clear b2 q5 GA TD FO Gv FV FW;generalize World.setCell F8 _ _=ZO at S8 K8 D aq ⊢;obtain⟨ao,co,rfl⟩:=iT S8.ror;obtain⟨q,hq⟩:∃q,q=G.length:=⟨_,rfl⟩
   have HQ:=ae hq;rw[<-hq] at Iv;clear hq;obtain⟨ZP,-,-,-,b3,-⟩:=S8.ab.K;rw[<-HQ.out] at b3;have O:=ae ((BS ZO).alloc ly (J #[U nm] 9));have S9:=ae (S8.aa O ly);have RO:Hid ((B ZO (J #[U nm] 9)).ownsRow (z (A w0)) 9 1 (Y ao q co) q (bo (G.map (·.e)))):=by have h:=S9.ror;rw[<-HQ.out] at h;exact h
   have Gj:z (A w0)<=(B ZO (J #[U nm] 9)).heap.size:=S9.lt;have HG:Hid (∀ZQ:M,(B ZO (J #[U nm] 9)).grownBy ZQ (Value.slice ao q co).ownBlock->ZQ.heap[hb]?=(B ZO (J #[U nm] 9)).heap[hb]?/\ZQ.heap[z (A w)]?=(B ZO (J #[U nm] 9)).heap[z (A w)]?/\ZQ.heap[s]?=(B ZO (J #[U nm] 9)).heap[s]?):=λZQ hg=>by
    have bt:∀(i:Nat) (cs:Array ZB) (t:ZH) (fz:Nat × Nat),(B ZO (J #[U nm] 9)).heap[i]?=T (Obj.cells cs t fz)->t≠9->ZQ.heap[i]?=(B ZO (J #[U nm] 9)).heap[i]?:=λi cs t fz hi ht=>hg.block i (ag hi) λe=>by obtain⟨_,_,Gr,hc⟩:=af RO i e.symm;exact ht (ah hi hc)
    exact⟨bt _ _ _ _ S9.ab (by decide),bt _ _ _ _ ((O.block _ (ag D)).trans D) (by decide),bt _ _ _ _ ((O.block _ (ag aq)).trans aq) (by decide)⟩
   have F9:Hid ((B ZO (J #[U nm] 9)).heap[z (A w)]?=T (J #[Q I 0,U ⟨#[]⟩,Y Z 0 0] 39 (0,0))):=(O.block _ (ag D)).trans D;have GO:Hid ((B ZO (J #[U nm] 9)).heap[s]?=T (J #[Q I f,U ZT,Y Z 0 0] 39 (0,0))):=(O.block _ (ag aq)).trans aq;have hbw:¬ hb=z (A w):=λe=>by have h:=S8.ab;unfold ShBox at h;rw[e] at h;exact absurd (ah h D) (by decide)
   have DS:¬ (z (A w))=hb:=λe=>hbw e.symm;have Hu:¬ hb=s:=λe=>by have h:=S8.ab;unfold ShBox at h;rw[e] at h;exact absurd (ah h aq) (by decide)
   have IC:¬ s=hb:=λe=>Hu e.symm
   go_wp2_with (first
    |(at_builtin;refine bG _ rfl (.tmp 235) (.tmp 237) 30 rfl (z (A w0)) 9 i1 (U ⟨#[]⟩) 1 16 JD Hn G8 Hx Hb rfl (by decide) (Y ao q co) q (bo (G.map (·.e))) (by simp[Act.eval]) RO.out (N (z (A ZO)) 0 Z) 1 1 [U nm] (by simp[Act.eval]) rfl (nH ZO _ _) (by simp[Value.oneCell']) (by unfold maxLen;omega) (by omega) Gj ?_;intro v9 w9 H o mv;have O9:=ae H;have G9:=ae o;have Hw:=ae mv;have qr:=ae (HG w9 o);obtain⟨g9,c9,IW,rfl,Hf⟩:=H.2.resolve_left (λh=>by omega);clear Hf H o mv;obtain⟨Iu,-,-,-,f3,-,-,-,-,-,ff⟩:=(ShBox.ad S9.ab qr.1).K;have Ji:=ff 3;obtain⟨rl,r0,r1,r2,rf⟩:=bw (qr.2.1.trans F9);have Ha:=rf 0;have GM:=rf 1;have Hc:=rf 2;obtain⟨pl,p0,p1,p2,pf⟩:=bw (qr.2.2.trans GO);clear ff rf pf)
    |fail)
   have FX:=ae (S9.ord (x:=⟨nm,3,f,ZT,tg,ls⟩) (w':=w9) (v:=Y (T (N g9 0 Z)) (q+1) c9) (by rw[<-HQ.out];exact G9) (by rw[<-HQ.out];exact O9) (by rw[<-HQ.out];exact Hw));refine bp (v:=ZG #[Q I f,U ZT,Y Z 0 0]) (by simp[results,MY,go_sem,r0,r1,r2]) rfl ?_;have F0:=(qh w9 (N hb 3 Z) (Y (T (N g9 0 Z)) (q+1) c9) (z (A w)) DS).trans (qr.2.1.trans F9);rw[IJ.out];refine⟨L1.set n ⟨m1.e,f,ZT,ls,Y (T (N gx 0 Z)) ln cx,ZF⟩,Y (T (N g 0 Z)) ZM FZ,Y (T (N g9 0 Z)) (q+1) c9,Y (T (N gp 0 Z)) j ZK,rfl,?_,vA IF ex Hs Hs rfl rfl rfl rfl rfl II HI,X8.set ex rfl (λk e=>by cases e;exact I5),?_⟩;{have x0:=FX.1;rw[QO,QO] at x0;replace x0:=x0.R F0 ⟨by decide,by decide,by decide,by decide⟩ E 0 (Q I f);have y0:=au F0 (j:=0) (Q I f);have x1:=x0.R y0 ⟨by decide,by decide,by decide,by decide⟩ E 1 (U ZT);exact x1.R (au y0 (j:=1) (U ZT)) ⟨by decide,by decide,by decide,by decide⟩ E 2 (Y Z 0 0)};{have k0:=((KW.to K8).to (KS.q (X:=XN) O ly S8.lt)).to FX.2;exact((k0.fresh ly E 0 _).fresh ly E 1 _).fresh ly E 2 _}
  focus
   obtain⟨a,k,sv,rfl,⟨s0,s1,IY,Jp,IL,FP,FQ⟩,ph⟩:=FU
  rotate_left;focus
   obtain⟨sv,rfl,⟨s0,s1,IY,Jp,IL,FP,FQ⟩,ph⟩:=FU
  all_goals
   unfold ig;first|unfold iA|unfold iB
   dsimp only;go_upto_region 30 with fail;generalize hW:World.alloc w8 _=W9;obtain⟨O,-,-⟩:=nb1 hW;have K8:=ae ((K7.to ph).to (KS.q (X:=XN) O ly (nD E (K7.to ph).aa.size)));have Hm:=ae (ShBox.ad FP (O.block _ (ag FP)));have Il:=ae (own_below FQ O ly);have D:Hid (W9.heap[z (A w)]?=T (J #[Q I 0,U ⟨#[]⟩,Y Z 0 0] 39 (0,0))):=by have ZI:=(ph.ad _ _ _ _ P (by decide) (by decide) (by decide) λh=>h).trans P;exact(O.block _ (ag ZI)).trans ZI
   clear ph FP FQ O hW;obtain⟨ZP,-,-,-,-,-,b5,b6,b7,b8,-⟩:=Hm.K;have hbw:¬ hb=z (A w):=λe=>by have h:=Hm.out;unfold ShBox at h;rw[e] at h;exact absurd (ah h D) (by decide)
   have DS:¬ (z (A w))=hb:=λe=>hbw e.symm;obtain⟨rl,r0,r1,r2,rf⟩:=bw D;have Ha:=rf 0;have GM:=rf 1;have Hc:=rf 2;clear rf;first|simp only[iA] at b5 b6 b7|simp only[iB] at b5 b6 b7
   go_wp2_with fail;have Hp:=EZ Il.out D.out (by decide);first|refine bp (v:=ZG #[Q I 6,U ⟨#[]⟩,Y a c.length k]) (by simp[results,MY,go_sem,r0,r1,r2]) rfl ⟨a,k,rfl,?_⟩|refine bp (v:=ZG #[Q I 7,U d,Y Z 0 0]) (by simp[results,MY,go_sem,r0,r1,r2]) rfl ⟨rfl,?_⟩
   refine⟨⟨_,_,_,_,_,(qh _ _ _ _ hbw).trans ((qh _ _ _ _ hbw).trans ((qh _ _ _ _ hbw).trans Hm)),?_⟩,?_⟩
   ·exact ay (ay (ay Il Hp _ _) Hp _ _) Hp _ _
   ·exact((K8.fresh ly E 0 _).fresh ly E 1 _).fresh ly E 2 _
 ·have Hy:j=60:=Gi;subst Hy;have hbw:¬ hb=z (A w):=λe=>by have h:=S5.ab;unfold ShBox at h;rw[e] at h;exact absurd (ah h sm) (by decide)
  have DS:¬ (z (A w))=hb:=λe=>hbw e.symm;obtain⟨rl,r0,r1,r2,rf⟩:=bw sm;have Ha:=rf 0;have GM:=rf 1;have Hc:=rf 2;clear rf;go_wp2_with fail;refine bp (v:=ZG #[Q I 7,U nm,Y Z 0 0]) (by simp[results,MY,go_sem,r0,r1,r2]) rfl ?_;have Iq:=au S5.ab (j:=8) (ZC ZF);have Ir:=au Iq (j:=5) (Q I 7);have H8:=au Ir (j:=6) (U nm);have Jg:=au H8 (j:=7) (Y Z 0 0);have Gp:z (A w0)<=hb:=S5.hbB;have k8:=(((K5.to (KS.setCell (X:=XN) _ Gp (.inr λcs t fz hc=>.inr (.inr (ah hc S5.ab))) (ZC ZF) (j:=8))).to (KS.setCell (X:=XN) _ Gp (.inr λcs t fz hc=>.inr (.inr (ah hc Iq))) (Q I 7) (j:=5))).to (KS.setCell (X:=XN) _ Gp (.inr λcs t fz hc=>.inr (.inr (ah hc Ir))) (U nm) (j:=6))).to (KS.setCell (X:=XN) _ Gp (.inr λcs t fz hc=>.inr (.inr (ah hc H8))) (Y Z 0 0) (j:=7));refine⟨rfl,⟨_,_,_,_,_,(qh _ _ _ _ hbw).trans ((qh _ _ _ _ hbw).trans ((qh _ _ _ _ hbw).trans Jg)),⟨rfl,.inl ⟨rfl,rfl⟩⟩⟩,?_⟩;exact((k8.fresh ly E 0 _).fresh ly E 1 _).fresh ly E 2 _
end
section
variable {w0:M}{S:Spc}{a0 a1:Option Addr}{c0 c1 hb:Nat}
theorem tw{making:List ByteArray}{made:List Ent}(h:eK L making made)(g:∀m∈L,m.e≠nm)(l:aZ made nm=Z)(h1:atL making nm=Z)(f:m'.e=nm)(p:m'.done=ZF)(s:x.e=nm)(r:m'.E=(cI x).E)(i:m'.y=(cI x).y)(o:m'.V=x.looks)(q:m'.sv=Y Z 0 0)(n:Nat):eK ((L++[fu nm]).set L.length m') making (made++[x])/\LExt n L ((L++[fu nm]).set L.length m'):=by
 have b:(L++[fu nm])[L.length]?=T (fu nm):=by rw[JP ly,Nat.sub_self];rfl
 refine⟨vA (qx h g (m:=fu nm) rfl rfl) b rfl f s p r i o (dC l) h1,(LExt.add n L (m:=fu nm) rfl).set b f λj e=>?_⟩;rw[q] at e;cases e
theorem Br (C:nC w0 S a0 a1):∀n,lL w0 S hb (Y a0 S.n0 c0) (Y a1 S.n1 c1) n:=by
 have s:∀n,(∀m,n=m+1->lL w0 S hb (Y a0 S.n0 c0) (Y a1 S.n1 c1) m)->lL w0 S hb (Y a0 S.n0 c0) (Y a1 S.n1 c1) n:=by
  intro n D making made L md or st w nm ZR h hrel ZP f u hn;have hmade:made.length<=50000:=by unfold ec at f;omega
  have b:L.length<=100000:=by have:=hrel.len;omega
  rw[ni];unfold ew;cases h0:aZ made nm with
  |some e =>obtain⟨k,m,f1,ZS,ZT,E,H⟩:=Eb hrel h0;refine(Bp w nm h b k m f1 ZS ZT).mono ?_;rintro r w' ⟨rfl,o,g⟩;exact⟨L,md,or,st,by rw[E,H],o,hrel,LExt.refl _ _,g⟩
  |none =>
   cases h1:atL making nm with
   |some i =>
    obtain⟨k,m,f1,ZS,ZT,E⟩:=Ec hrel h1;have G:=u nm E;cases h2:atI (nm1 S.f1) S.n1 nm with
    |none=>rw[h2] at G;cases G
    |some tg=>exact uC C w nm h b (by omega) k m f1 ZS ZT tg i h2 h1
   |none =>
    obtain⟨q,y⟩:=yX hrel h0 h1;dsimp only;unfold fR;cases h2:atI (nm0 S.f0) S.n0 nm with
    |some i =>refine(ko.1 C w nm h b (by omega) q (mB C.ok h2) 0 (S.f0 i).y (.inr ⟨i,h2,rfl,rfl⟩) 1 (S.f0 i).y).mono ?_;rintro r w' ⟨l,p,rfl,o,g⟩;have j:=tw hrel y h0 h1 (m':=⟨nm,0,(S.f0 i).y,[],Y Z 0 0,ZF⟩) (x:=⟨nm,1,0,(S.f0 i).y,0,[]⟩) rfl rfl rfl rfl rfl rfl rfl (z (A w));exact⟨_,l,p,st,rfl,o,j.1,j.2,g⟩
    |none =>
     cases h3:atI (nm1 S.f1) S.n1 nm with
     |some t =>
      cases n with
      |zero=>exact ko.2 C w nm h b q h1 t h3 _ (.inl ⟨by omega,rfl⟩)
      |succ m=>exact ko.2 C w nm h b q h1 t h3 _ (.inr ⟨m,ZR,D m rfl,hrel,ZP,f,u,h0,rfl⟩)
     |none =>refine(ko.1 C w nm h b (by omega) q h3 4 nm (.inl ⟨h2,rfl,rfl⟩) 2 ⟨#[]⟩).mono ?_;rintro r w' ⟨l,p,rfl,o,g⟩;have j:=tw hrel y h0 h1 (m':=⟨nm,4,nm,[],Y Z 0 0,ZF⟩) (x:=⟨nm,2,0,⟨#[]⟩,0,[]⟩) rfl rfl rfl rfl rfl rfl rfl (z (A w));exact⟨_,l,p,st,rfl,o,j.1,j.2,g⟩
 intro n;induction n with
 |zero=>exact s 0 λm e=>by omega
 |succ n ZO=>exact s (n+1) λm e=>by cases e;exact ZO
end
