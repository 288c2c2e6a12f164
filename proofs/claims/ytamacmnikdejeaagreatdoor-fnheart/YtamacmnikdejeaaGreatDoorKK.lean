import Derived.Test.YtamacmnikdejeaaGreatDoorKG
import Derived.WalkSmall
set_option maxRecDepth 1000000
set_option maxHeartbeats 16000000
set_option linter.unusedSimpArgs false
open Go renaming Addr.mk->Q,Value.slice->Y,Value.string->U,Value.int->J,Value.bool->ZC,Value.agg->ZG,Obj.cells->N,IntKind.i64->I,World->E,Value->ZB,TypeId->ZH,Ending.returned->ZF,World.heap->B,World.alloc->A,Proofs.Tryz.prog->Pg
open Option renaming none->Z,some->T
open Bool renaming false->ZA,true->ZD
open Array renaming size->z
namespace Go.Proofs.YtamacmnikdejeaaGreatDoor.Vp
open Tryz RowKit
variable {m m':SM}{n g cap b j i size ZS ZN:Nat}{e:ZH}{x:Ent}{nm:ByteArray}{u:ZB}
theorem uR:∀(L:List SM) (k j:Nat) (m b:SM) (u:ZB),L[k]?=T m->j<6->smV b=(smV m).set j u->(L.flatMap smV).set (k*6+j) u=(L.set k b).flatMap smV
 |[],k,j,m,b,u,h,_,_=>by simp at h
 |a::L,0,j,m,b,u,h,hj,he=>by simp only[List.getElem?_cons_zero,KJ] at h;subst h;simp only[LI,List.set_cons_zero,QO,IT];rw[TT _ _ (by rw[nB];exact hj),he]
 |a::L,k+1,j,m,b,u,h,hj,he=>by simp only[List.getElem?_cons_succ] at h;simp only[LI,Q2];rw[PU _ _ (by rw[nB];omega),nB,show(k+1)*6+j - 6=k*6+j by omega,uR L k j m b u h hj he]
theorem yQ{w:E}{l:List ZB}(h:w.ownsRow b e size (Y (T (Q g 0 Z)) n cap) n l)(u:ZB):(w.setCell (Q g j Z) u).ownsRow b e size (Y (T (Q g 0 Z)) n cap) n (l.set j u):=by
 refine⟨by rw[KQ];exact h.1,?_⟩;rcases h.2 with ⟨f,h0⟩|⟨g',cap',i,f,hb,m,h1,h2,p,o⟩
 {simp at f};{simp only[KK,KJ,OT] at f;obtain⟨⟨rfl,-⟩,-,rfl⟩:=f;refine .inr ⟨g,cap,i.setIfInBounds j u,rfl,hb,aw m u,h1,h2,by simpa using p,?_⟩;rw[NS,U3,o]}
section
variable {w0 w w':E}{hb:Nat}{s0 s1 md or st:ZB}{making:List ByteArray}{made:List Ent}{L:List SM}
theorem SI.upd{k:Nat}{b:SM}(h:SI w0 hb s0 s1 w making made L (Y (T (Q g 0 Z)) L.length cap) or st)(G:L[k]?=T m)(ZP:j<6)(D:smV b=(smV m).set j u)(H:b.done=ZD->w.ownsRow (z (B w0)) 164 3 b.sv b.V.length (eh b.V)):SI w0 hb s0 s1 (w.setCell (Q g (k*6+j) Z) u) making made (L.set k b) (Y (T (Q g 0 Z)) (L.set k b).length cap) or st/\KS (z (B w0)) XN w (w.setCell (Q g (k*6+j) Z) u):=by
 obtain⟨l,hgl,cs,p⟩:=af h.ag g rfl
 have f:∀{size n:Nat} {q:ZH} {ZT:ZB} {y:List ZB},w.ownsRow (z (B w0)) q size ZT n y->161≠q->(w.setCell (Q g (k*6+j) Z) u).ownsRow (z (B w0)) q size ZT n y:=λr s=>aA r (λe=>by
  obtain⟨_,_,ZR,i⟩:=af r g e
  exact s (ai p i)) _ _
 have ZS:(L.set k b).length=L.length:=KQ;refine⟨⟨h.ak.setCell l u,h.hbB,?_,?_,f h.ror (by decide),f h.rst (by decide),h.apart,λx o C=>?_⟩,KS.setCell w l (.inr λZR t fz i=>.inr (.inl (ai i p))) u⟩
 ·rw[ZS]
  exact h.l.ab (qh _ _ _ _ λe=>by
   have ZQ:hb=g:=e
   exact absurd (ai h.l (ZQ ▸ p)) (by decide))
 {rw[ZS,<-uR L k j m b u G ZP D];exact yQ h.ag u};{rcases LN o with o|rfl;{exact f (h.V x o C) (by decide)};{exact f (H C) (by decide)}}
theorem SI.addL{v:ZB}(h:SI w0 hb s0 s1 w making made L md or st)(H:w.grownBy w' md.ownBlock)(C:w'.ownsRow (z (B w0)) 161 6 v (L.length+1) (L.flatMap smV++smV m))(O:m.done=ZA):SI w0 hb s0 s1 (w'.setCell (Q hb 2 Z) v) making made (L++[m]) v or st/\KS (z (B w0)) XN w (w'.setCell (Q hb 2 Z) v):=by
 have ZR:=af h.ag;have ZP:KS (z (B w0)) XN w w':=KS.of_grown H h.lt λj ZN=>by obtain⟨h1,_,l,h2⟩:=ZR j ZN;exact⟨h1,.inr λl t fz o=>.inr (.inl (ai o h2))⟩
 have q:∀(i:Nat) (l:Array ZB) (t:ZH) (fz:Nat × Nat),w.heap[i]?=T (Obj.cells l t fz)->t≠161->w'.heap[i]?=w.heap[i]?:=λi l t fz hi M=>H.block i (ah hi) λe=>by obtain⟨_,_,ZT,h2⟩:=ZR i e.symm;exact M (ai hi h2)
 have b:ShBox w' hb s0 s1 md or st 0 ⟨#[]⟩ (Y Z 0 0) ZA:=h.l.ab (q _ _ _ _ h.l (by decide));have f:∀{size n:Nat} {u:ZH} {ZQ:ZB} {K:List ZB},w.ownsRow (z (B w0)) u size ZQ n K->u≠161->89≠u->(w'.setCell (Q hb 2 Z) v).ownsRow (z (B w0)) u size ZQ n K:=λy D ZO=>by
  have G:=bO (w':=w') y λk g=>by obtain⟨_,_,l,o⟩:=af y k g;exact q _ _ _ _ o D
  exact aA G (λe=>by
   obtain⟨_,_,ZT,p⟩:=af G hb e
   exact ZO (ai b p)) _ _
 have ZS:(w'.setCell (Q hb 2 Z) v).ownsRow (z (B w0)) 161 6 v (L.length+1) (L.flatMap smV++smV m):=aA C (λe=>by
  obtain⟨_,_,ZT,p⟩:=af C hb e
  exact absurd (ai b p) (by decide)) _ _
 have g:KS (z (B w0)) XN w' (w'.setCell (Q hb 2 Z) v):=KS.setCell w' h.hbB (.inr λl t fz o=>.inr (.inr (ai o b))) v;refine⟨⟨h.ak.trans (ZP.to g).aa,h.hbB,aw b v,(by rw[eL,AT,KE,List.flatMap_singleton];exact ZS),f h.ror (by decide) (by decide),f h.rst (by decide) (by decide),h.apart,λx r s=>?_⟩,ZP.to g⟩;rcases wC.1 r with r|r;{exact f (h.V x r s) (by decide) (by decide)};{rw[hU.1 r,O] at s;cases s}
theorem SI.ord{v:ZB}(h:SI w0 hb s0 s1 w making made L md or st)(ZT:w.grownBy w' or.ownBlock)(C:w'.ownsRow (z (B w0)) 9 1 v (made.length+1) (bA (made.map (·.e))++[U x.e]))(ZQ:v.ownBlock=or.ownBlock∨v.ownBlock=T (z (B w))):SI w0 hb s0 s1 (w'.setCell (Q hb 3 Z) v) making (made++[x]) L md v st/\KS (z (B w0)) XN w (w'.setCell (Q hb 3 Z) v):=by
 have y:=af h.ror;have D:KS (z (B w0)) XN w w':=KS.of_grown ZT h.lt λj P=>by obtain⟨h1,_,l,h2⟩:=y j P;exact⟨h1,.inr λl t fz m=>.inl (ai m h2)⟩
 have r:∀(i:Nat) (l:Array ZB) (t:ZH) (fz:Nat × Nat),w.heap[i]?=T (Obj.cells l t fz)->t≠9->w'.heap[i]?=w.heap[i]?:=λi l t fz hi M=>ZT.block i (ah hi) λe=>by obtain⟨_,_,p,h2⟩:=y i e.symm;exact M (ai hi h2)
 have b:ShBox w' hb s0 s1 md or st 0 ⟨#[]⟩ (Y Z 0 0) ZA:=h.l.ab (r _ _ _ _ h.l (by decide));have q:∀{size n:Nat} {u:ZH} {ZO:ZB} {ZP:List ZB},w.ownsRow (z (B w0)) u size ZO n ZP->u≠9->89≠u->(w'.setCell (Q hb 3 Z) v).ownsRow (z (B w0)) u size ZO n ZP:=λZR H G=>by
  have s:=bO (w':=w') ZR λk f=>by obtain⟨_,_,l,m⟩:=af ZR k f;exact r _ _ _ _ m H
  exact aA s (λe=>by
   obtain⟨_,_,p,g⟩:=af s hb e
   exact G (ai b g)) _ _
 have ZS:(w'.setCell (Q hb 3 Z) v).ownsRow (z (B w0)) 9 1 v (made.length+1) (bA (made.map (·.e))++[U x.e]):=aA C (λe=>by
  obtain⟨_,_,p,g⟩:=af C hb e
  exact absurd (ai b g) (by decide)) _ _
 have f:KS (z (B w0)) XN w' (w'.setCell (Q hb 3 Z) v):=KS.setCell w' h.hbB (.inr λl t fz m=>.inr (.inr (ai m b))) v;refine⟨⟨h.ak.trans (D.to f).aa,h.hbB,aw b v,q h.ag (by decide) (by decide),(by rw[eL,AT];simpa[bA] using ZS),?_,λk o=>?_,λx ZN K=>q (h.V x ZN K) (by decide) (by decide)⟩,D.to f⟩
 ·have s:w'.ownsRow (z (B w0)) 9 1 st making.length (bA making):=bO h.rst λk f=>by
   obtain⟨_,O,l,m⟩:=af h.rst k f;exact ZT.block k O λe=>h.apart k e.symm f
  exact aA s (λe=>by
   obtain⟨_,_,p,g⟩:=af s hb e
   exact absurd (ai b g) (by decide)) _ _
 ·intro e;rcases ZQ with a|a;{exact h.apart k (by rw[<-a];exact o) e}
  ·rw[a] at o;cases o
   have:=(af h.rst _ e).2.1;omega
theorem SI.push{v:ZB}(h:SI w0 hb s0 s1 w making made L md or st)(ZT:w.grownBy w' st.ownBlock)(C:w'.ownsRow (z (B w0)) 9 1 v (making.length+1) (bA making++[U nm]))(ZQ:v.ownBlock=st.ownBlock∨v.ownBlock=T (z (B w))):SI w0 hb s0 s1 (w'.setCell (Q hb 4 Z) v) (making++[nm]) made L md or v/\KS (z (B w0)) XN w (w'.setCell (Q hb 4 Z) v):=by
 have u:=af h.rst;have D:KS (z (B w0)) XN w w':=KS.of_grown ZT h.lt λj P=>by obtain⟨h1,_,l,h2⟩:=u j P;exact⟨h1,.inr λl t fz m=>.inl (ai m h2)⟩
 have q:∀(i:Nat) (l:Array ZB) (t:ZH) (fz:Nat × Nat),w.heap[i]?=T (Obj.cells l t fz)->t≠9->w'.heap[i]?=w.heap[i]?:=λi l t fz hi M=>ZT.block i (ah hi) λe=>by obtain⟨_,_,o,h2⟩:=u i e.symm;exact M (ai hi h2)
 have b:ShBox w' hb s0 s1 md or st 0 ⟨#[]⟩ (Y Z 0 0) ZA:=h.l.ab (q _ _ _ _ h.l (by decide));have p:∀{size n:Nat} {s:ZH} {ZO:ZB} {ZP:List ZB},w.ownsRow (z (B w0)) s size ZO n ZP->s≠9->89≠s->(w'.setCell (Q hb 4 Z) v).ownsRow (z (B w0)) s size ZO n ZP:=λZR H G=>by
  have r:=bO (w':=w') ZR λk f=>by obtain⟨_,_,l,m⟩:=af ZR k f;exact q _ _ _ _ m H
  exact aA r (λe=>by
   obtain⟨_,_,o,g⟩:=af r hb e
   exact G (ai b g)) _ _
 have ZS:(w'.setCell (Q hb 4 Z) v).ownsRow (z (B w0)) 9 1 v (making.length+1) (bA making++[U nm]):=aA C (λe=>by
  obtain⟨_,_,o,g⟩:=af C hb e
  exact absurd (ai b g) (by decide)) _ _
 have f:KS (z (B w0)) XN w' (w'.setCell (Q hb 4 Z) v):=KS.setCell w' h.hbB (.inr λl t fz m=>.inr (.inr (ai m b))) v;refine⟨⟨h.ak.trans (D.to f).aa,h.hbB,aw b v,p h.ag (by decide) (by decide),?_,(by rw[eL,AT];simpa[bA] using ZS),λk y=>?_,λx ZN K=>p (h.V x ZN K) (by decide) (by decide)⟩,D.to f⟩
 ·have r:w'.ownsRow (z (B w0)) 9 1 or made.length (bA (made.map (·.e))):=bO h.ror λk f=>by
   obtain⟨_,O,l,m⟩:=af h.ror k f;exact ZT.block k O λe=>h.apart k f e.symm
  exact aA r (λe=>by
   obtain⟨_,_,o,g⟩:=af r hb e
   exact absurd (ai b g) (by decide)) _ _
 ·intro e;rcases ZQ with a|a;{exact h.apart k y (by rw[<-a];exact e)}
  ·rw[a] at e;cases e
   have:=(af h.ror _ y).2.1;omega
theorem SI.pop (h:SI w0 hb s0 s1 w (making++[nm]) made L md or (Y (T (Q g 0 Z)) (making.length+1) cap)):SI w0 hb s0 s1 (w.setCell (Q hb 4 Z) (Y (T (Q g 0 Z)) making.length cap)) making made L md or (Y (T (Q g 0 Z)) making.length cap)/\KS (z (B w0)) XN w (w.setCell (Q hb 4 Z) (Y (T (Q g 0 Z)) making.length cap)):=by
 have b:∀{size n:Nat} {i:ZH} {l:ZB} {j:List ZB},w.ownsRow (z (B w0)) i size l n j->89≠i->(w.setCell (Q hb 4 Z) (Y (T (Q g 0 Z)) making.length cap)).ownsRow (z (B w0)) i size l n j:=λf m=>aA f (λe=>by
  obtain⟨_,_,cs2,o⟩:=af f hb e
  exact m (ai h.l o)) _ _
 have hst:=h.rst;rw[eL,AT] at hst;refine⟨⟨h.ak.setCell h.hbB _,h.hbB,aw h.l _,b h.ag (by decide),b h.ror (by decide),b (ownsRow_pop (last:=[U nm]) (by simp[bA]) (by simpa[bA] using hst)) (by decide),h.apart,λx p r=>b (h.V x p r) (by decide)⟩,KS.setCell w h.hbB (.inr λcs t fz q=>.inr (.inr (ai q h.l))) _⟩
end
theorem xf{L:List SM}(h:L.Pairwise λm b=>m.e≠b.e){b:SM}(hi:L[i]?=T m)(r:L[j]?=T b)(e:m.e=b.e):i=j:=by
 rw[LC] at h;obtain⟨n,l⟩:=j5.1 hi;obtain⟨g,f⟩:=j5.1 r;rcases SD i j with o|p|q;{exact absurd (by rw[l,f];exact e) (h i j n g o)};{exact p};{exact absurd (by rw[l,f];exact e.symm) (h j i g n q)}
theorem qY{L:List SM}(hn:L.Pairwise λm g=>m.e≠g.e)(l:m∈L)(e:m.e=nm):∃k,fI L nm=T k/\L[k]?=T m:=by
 obtain⟨k,b⟩:=LZ l;refine⟨k,uL b (by rw[e];simp) λj i hj f=>?_,b⟩;cases h:(i.e.toList == nm.toList) with
 |false=>rfl
 |true =>have:=xf hn f b (by rw[bytes_beq h,e]);omega
section
variable {L:List SM}{making:List ByteArray}{made:List Ent}{nm:ByteArray}
theorem FJ (h:fq L making made){e:Ent}(b:aO made nm=T e):∃k m,fI L nm=T k/\L[k]?=T m/\m.done=ZD/\m.M=(dk e).M/\m.H=(dk e).H:=by obtain⟨h1,h2⟩:=gK b;obtain⟨m,g,j,n,f,i,_⟩:=h.got e h1;obtain⟨k,l,o⟩:=qY h.nod g (j.trans h2);exact⟨k,m,l,o,n,f,i⟩
theorem FK (h:fq L making made)(hi:atL making nm=T i):∃k m,fI L nm=T k/\L[k]?=T m/\m.done=ZA/\nm∈making:=by
 have f:=hi;unfold atL at f;obtain⟨g,h1,_⟩:=NW.1 f;have b:nm∈making:=by rw[<-bytes_beq h1];exact gz g
 obtain⟨m,j,p,n⟩:=h.mkg nm b;obtain⟨k,l,o⟩:=qY h.nod j p;exact⟨k,m,l,o,n,b⟩
theorem AG (h:fq L making made)(l:aO made nm=Z)(h1:atL making nm=Z):fI L nm=Z/\∀m∈L,m.e≠nm:=by
 have b:∀m∈L,m.e≠nm:=λm f e=>by
  rcases h.all m f with ⟨x,g,i⟩|h2;{exact dx l x g (i.trans e)};{exact jo h1 _ h2 e}
 refine⟨xc λj m hj f=>?_,b⟩;cases h2:(m.e.toList == nm.toList) with
 |false=>rfl
 |true=>exact absurd (bytes_beq h2) (b m (J2 f))
theorem rX (h:fq L making made)(j:∀m∈L,m.e≠nm)(i:m.e=nm)(o:m.done=ZA):fq (L++[m]) (making++[nm]) made:=by
 refine⟨?_,by simp[h.len];omega,λx n=>?_,λt g=>?_,λy f=>?_⟩;{rw[MN];exact⟨h.nod,RU _ _,λa l b hb=>by rw[hU.1 hb,i];exact j a l⟩};{obtain⟨y,f,r⟩:=h.got x n;exact⟨y,LB _ f,r⟩};{rcases wC.1 g with g|g;{obtain⟨y,f,r⟩:=h.mkg t g;exact⟨y,LB _ f,r⟩};{exact⟨m,ME _ (hU.2 rfl),by rw[i,hU.1 g],o⟩}};{rcases wC.1 f with f|f;{exact(h.all y f).imp id λh=>LB _ h};{rw[hU.1 f,i];exact .inr (ME _ (hU.2 rfl))}}
theorem xg{g:List Ent}{k:Nat}{b:SM}(h:fq L (making++[nm]) g)(ZT:L[k]?=T m)(G:m.e=nm)(p:b.e=nm)(ZS:x.e=nm)(P:b.done=ZD)(M:b.M=(dk x).M)(K:b.H=(dk x).H)(O:b.V=x.looks)(ZN:∀y∈g,y.e≠nm)(h1:atL making nm=Z):fq (L.set k b) making (g++[x]):=by
 have ZP:=(j5.1 ZT).1;have C:=(j5.1 ZT).2;have o:∀y∈L,y.e≠nm->y∈L.set k b:=λy f ZO=>by
  obtain⟨i,hi⟩:=LZ f;refine J2 (i:=i) ?_;rw[NK λe=>?_];{exact hi}
  ·subst e;rw[ZT] at hi;cases hi
   exact ZO G
 have u:b∈L.set k b:=J2 (L8 ZP);refine⟨?_,by rw[KQ,h.len];simp;omega,λy f=>?_,λt s=>?_,λy f=>?_⟩;{have n:=h.nod;rw[LC] at n ⊢;have q:∀(i:Nat) (hi:i<(L.set k b).length),(L.set k b)[i].e=(L[i]'(by simpa using hi)).e:=λi hi=>(by rw[List.getElem_set];split;{rename_i e;subst e;rw[C,G,p]};{rfl});intro i j hi H D;rw[q i hi,q j H];exact n i j (by simpa using hi) (by simpa using H) D};{rcases wC.1 f with f|f;{obtain⟨ZR,hz,l,r⟩:=h.got y f;exact⟨ZR,o ZR hz (by rw[l];exact ZN y f),l,r⟩};{rw[hU.1 f];exact⟨b,u,by rw[p,ZS],P,M,K,O⟩}};{obtain⟨ZR,hz,l,r⟩:=h.mkg t (LB _ s);exact⟨ZR,o ZR hz (by rw[l];exact jo h1 t s),l,r⟩};{rcases LN f with ZQ|rfl;{rcases h.all y ZQ with ⟨ZR,hz,e⟩|h2;{exact .inl ⟨ZR,LB _ hz,e⟩};{rcases wC.1 h2 with h2|h2;{exact .inr h2};{exact .inl ⟨x,ME _ (hU.2 rfl),by rw[ZS,hU.1 h2]⟩}}};{exact .inl ⟨x,ME _ (hU.2 rfl),by rw[ZS,p]⟩}}
end
theorem nW{S:Spc}(h:SpcOk S)(hi:atI (nm0 S.f0) S.n0 nm=T i):atI (nm1 S.f1) S.n1 nm=Z:=by
 have b:=h.chk;unfold bq at b;split at b;· omega
 split at b;· omega
 split at b;· omega
 split at b;· omega
 split at b;· omega
 split at b;· omega
 rename_i f;obtain⟨h1,h2⟩:=bc hi;have:=jn (Bool.eq_false_iff.2 f) h1;rw[h2] at this;exact uK this
open Ca
section
variable {w0:E}{S:Spc}{a0 a1:Option Addr}{c0 c1 hb:Nat}{md or st:ZB}{making:List ByteArray}{made:List Ent}{L:List SM}
theorem DV (w:E)(nm:ByteArray)(h:SI w0 hb (Y a0 S.n0 c0) (Y a1 S.n1 c1) w making made L md or st)(y:L.length<=100000)(k:Nat)(m:SM)(h1:fI L nm=T k)(h2:L[k]?=T m)(G:m.done=ZD):Calls Pg 91 #[.pointer (T (Q hb 0 Z)),U nm] w λe w'=>e=ZF (ZG #[J I m.M,U m.H,Y Z 0 0])/\SI w0 hb (Y a0 S.n0 c0) (Y a1 S.n1 c1) w' making made L md or st/\KS (z (B w0)) XN w w':=by
 obtain⟨p,f⟩:∃W:E,A w (N #[J I 0,U ⟨#[]⟩,Y Z 0 0] 37)=W:=⟨_,rfl⟩
 obtain⟨x,kr,-⟩:=nb1 f;have o:=ae f;clear f;have l:=ae (h.aa x ly);have b:z (B w0)<=z (B w):=h.lt;have hkl:=(j5.1 h2).1;obtain⟨g,cap,cur,rfl,-⟩:=h.ag.2.resolve_left (λh=>by omega);have ZS:dW (fI L nm)=(k:Int):=by rw[h1];rfl
 have q:=ae h2;obtain⟨n,hn⟩:∃n,n=L.length:=⟨_,rfl⟩
 have ZT:=ae hn;have hkn:k<n:=by omega
 clear h h1 h2 hn;go_enter func91,ntmps91;go_wp2_with fail;rw[o.out];clear o;refine(oT p nm l y).mono ?_;rintro e w1 ⟨rfl,s⟩;rw[s];clear s;rw[ZS];obtain⟨hbl,-,-,D,-⟩:=l.l.D;have d1:p.cell? (Q g (k*6+1) Z)=T (J I m.M):=cE l.ag q 1 (by omega) rfl;have d2:p.cell? (Q g (k*6+2) Z)=T (U m.H):=cE l.ag q 2 (by omega) rfl;have d3:p.cell? (Q g (k*6+3) Z)=T (Y Z 0 0):=cE l.ag q 3 (by omega) rfl;have d5:p.cell? (Q g (k*6+5) Z)=T (ZC ZD):=by have:=cE l.ag q.out 5 (by omega) (u:=ZC m.done) rfl;rw[G] at this;exact this
 rw[<-ZT.out] at D;obtain⟨rl,r0,r1,ZR,r⟩:=bP kr;have rf0:=r 0;have rf1:=r 1;have rf2:=r 2;have hI0:(0:Int)<=(k:Int):=by omega
 have hI1:(k:Int)<(n:Int):=by omega
 clear r;go_wp2_with fail;refine bp (v:=ZG #[J I m.M,U m.H,Y Z 0 0]) (by simp[results,PE,go_sem,r0,r1,ZR]) rfl ⟨rfl,?_,?_⟩;{have ZQ:=l.ad kr.out ⟨by decide,by decide,by decide,by decide⟩ b 0 (J I m.M);have t:=aw kr.out (j:=0) (J I m.M);have C:=ZQ.ad t ⟨by decide,by decide,by decide,by decide⟩ b 1 (U m.H);exact C.ad (aw t (j:=1) (U m.H)) ⟨by decide,by decide,by decide,by decide⟩ b 2 (Y Z 0 0)}
 ·refine((((KS.q (X:=XN) x ly b).trans (KS.setCell (X:=λi=>i=z (B w)) _ b (Or.inl rfl) _) ?_).trans (KS.setCell (X:=λi=>i=z (B w)) _ b (Or.inl rfl) _) ?_).trans (KS.setCell (X:=λi=>i=z (B w)) _ b (Or.inl rfl) _) ?_);all_goals
   intro i hi h;have e2:i=z (B w):=h;omega
theorem uS{w:E}{M:List ByteArray}(h:w.ownsRow b 9 1 (Y (T (Q g 0 Z)) n cap) n (bA M)){t:ByteArray}(f:M[i]?=T t):w.cell? (Q g i Z)=T (U t):=by have h1:=h.cells (g:=g) rfl i (U t) (by rw[bA,KN,f];rfl);rw[addr_add,IT] at h1;exact h1
theorem vY (C:oU w0 S a0 a1)(w:E)(nm:ByteArray)(h:SI w0 hb (Y a0 S.n0 c0) (Y a1 S.n1 c1) w making made L md or st)(Hh:L.length<=100000)(DE:making.length<=60)(k:Nat)(m:SM)(h1:fI L nm=T k)(h2:L[k]?=T m)(hd:m.done=ZA)(tg ZS:Nat)(ht:atI (nm1 S.f1) S.n1 nm=T tg)(hi:atL making nm=T ZS):Calls Pg 91 #[.pointer (T (Q hb 0 Z)),U nm] w λe w'=>lL w0 hb (Y a0 S.n0 c0) (Y a1 S.n1 c1) making L w e w' (.inr (.inl (making.drop ZS))):=by
 obtain⟨i1,Ha,Hm,Hk,Hq⟩:=kq oV;obtain⟨W0,K⟩:∃W:E,A w (N #[J I 0,U ⟨#[]⟩,Y Z 0 0] 37)=W:=⟨_,rfl⟩
 obtain⟨A0,kr,-⟩:=nb1 K;have ZJ:=ae K;clear K;have S0:=ae (h.aa A0 ly);have o:z (B w0)<=z (B w):=h.lt;have hkl:=(j5.1 h2).1;obtain⟨g,cap,cur,rfl,-⟩:=h.ag.2.resolve_left (λh=>by omega);have e1:dW (fI L nm)=(k:Int):=by rw[h1];rfl
 have M:dW (atI (nm1 S.f1) S.n1 nm)=(tg:Int):=by rw[ht];rfl
 have Hf:ZS<making.length/\(∃x,making[ZS]?=T x/\(x.toList == nm.toList)=ZD)/\∀(j:Nat) (y:ByteArray),j<ZS->making[j]?=T y->(y.toList == nm.toList)=ZA:=by unfold atL at hi;obtain⟨q1,q2,q3⟩:=NW.1 hi;refine⟨q1,⟨_,gq q1,q2⟩,λj y hj hy=>?_⟩;have:=q3 j hj;rw[Bool.not_eq_true] at this;rw[(j5.1 hy).2] at this;exact this
 obtain⟨Fm,⟨xi,At,n7⟩,ld⟩:=Hf;obtain⟨ZK,l,cus,rfl,ur⟩:=h.rst.2.resolve_left (λh=>by omega);have Hu:making.length<=l:=ur.2.2.1;have H2:=ae h2;have Hp:=ae At;have Hn:=ae ld;have Hi:=ae n7;obtain⟨n,hn⟩:∃n,n=L.length:=⟨_,rfl⟩
 have HN:=ae hn;have hkn:k<n:=by omega
 obtain⟨f,bt⟩:∃f,f=making.length:=⟨_,rfl⟩
 have ZQ:=ae bt;have CC:=ae C;have hsm:=C.ok.av;rw[<-bt] at Fm DE Hu;clear h h1 h2 hn C ht hi ur bt At n7 ld;go_enter func91,ntmps91;go_wp2_with fail;rw[ZJ.out];clear ZJ;refine(oT W0 nm S0 Hh).mono ?_;rintro e w1 ⟨rfl,qr⟩;rw[qr];clear qr;rw[e1];obtain⟨ZL,b0,b1,b2,-⟩:=S0.l.D;have d5:W0.cell? (Q g (k*6+5) Z)=T (ZC ZA):=by have:=cE S0.ag H2.out 5 (by omega) (u:=ZC m.done) rfl;rw[hd] at this;exact this
 rw[<-HN.out] at b2;have hI0:(0:Int)<=(k:Int):=by omega
 have hI1:(k:Int)<(n:Int):=by omega
 go_wp2_with fail;refine(gY a0 S.n0 c0 a1 S.n1 c1 S.f0 nm W0 (by omega) (CC.src.aa S0.ak ly)).mono ?_;rintro e w1 ⟨rfl,ZT⟩;have S1:=ae (S0.aa ZT ly);have n9:Hid (w1.heap[z (B w)]?=_):=(ZT.block _ (ah kr)).trans kr;have K1:=ae (A0.trans (ZT.mono A0.size));clear ZT b0 b1 b2 ZL d5;obtain⟨ZL,b0,b1,-⟩:=S1.l.D;go_wp2_with fail;refine(gZ a0 S.n0 c0 a1 S.n1 c1 S.f1 nm w1 (by omega) (CC.w.aa S1.ak ly)).mono ?_;rintro e P ⟨he,ZT⟩;rw[M] at he;subst he;have s:=ae (S1.aa ZT ly);have mv:Hid (P.heap[z (B w)]?=_):=(ZT.block _ (ah n9)).trans n9;have K2:=ae (K1.trans (ZT.mono K1.size));clear ZT b0 b1 ZL;obtain⟨ZL,-,-,-,-,b4,b5,b6,b7,b8,bf⟩:=s.l.D;have Ht:=bf 5;have Hc:=bf 6;have Ho:=bf 7;have Hg:=bf 8;rw[<-ZQ.out] at b4;clear bf;have hT0:(0:Int)<=(tg:Int):=by omega
 go_wp2_with fail;go_loop [9] (λi=>∃j:Nat,j<=ZS/\i=J I j) (λi=>ZS - (intOf i).toNat);case atStart=>exact⟨0,by omega,rfl⟩
 case round =>
  obtain⟨j,hj,rfl⟩:=hrel;obtain⟨y,hy⟩:∃y,making[j]?=T y:=⟨_,gq (by have:=ZQ.out;omega)⟩
  have dj:P.cell? (Q ZK j Z)=T (U y):=uS s.rst hy;have hjm:(j:Int)<(f:Int):=by omega
  have HY:=ae hy;clear hy;by_cases Hj:j<ZS;{have Hd:=Hn.out j y Hj HY.out;have HNE:=ae Hd;go_wp2;exact⟨⟨j+1,by omega,by go_num⟩,by simp[intOf];omega⟩}
  ·obtain rfl:j=ZS:=by omega
   have hye:(y.toList == nm.toList)=ZD:=by
    have:=HY.out;rw[Hp.out] at this;cases this
    exact Hi
   go_upto_region 22 with fail;clear dj b4 b5 b6 b7 b8 Ht Hc Ho Hg;have th:=ae (aw s.l (j:=8) (ZC ZD))
   have R3:Hid ((P.setCell (Q hb 8 Z) (ZC ZD)).ownsRow (z (B w0)) 9 1 (Y (T (Q ZK 0 Z)) making.length l) making.length (bA making)):=aA s.rst (λe=>by
    obtain⟨_,_,n6,D⟩:=af s.rst hb e
    exact absurd (ai s.l D) (by decide)) _ _
   have hbw:hb≠z (B w):=λe=>absurd (ai s.l (e ▸ mv.out)) (by decide);have R:Hid ((P.setCell (Q hb 8 Z) (ZC ZD)).heap[z (B w)]?=_):=(qh _ _ _ _ (Ne.symm hbw)).trans mv;have V:Hid (KS (z (B w0)) XN w (P.setCell (Q hb 8 Z) (ZC ZD))):=(KS.q (X:=XN) K2 ly o).to (KS.setCell P s.hbB (.inr λl t fz ZP=>.inr (.inr (ai ZP s.l))) _);have aq:z (B w0)<=hb:=s.hbB;generalize World.setCell P _ _=b at th R3 R V ⊢;have ZN:Hid (ShBox b hb (Y a0 S.n0 c0) (Y a1 S.n1 c1) (Y (T (Q g 0 Z)) L.length cap) or (Y (T (Q ZK 0 Z)) making.length l) 0 ⟨#[]⟩ (Y Z 0 0) ZD):=th.out;obtain⟨GS,-,-,-,-,b4,-⟩:=ZN.D;rw[<-ZQ.out] at b4;have LO:=ae (nC b 9 1);have A4:=ae ((BS b).alloc ly (N #[] 9));have G8:Hid (∀q u,(bA (making.drop j))[q]?=T u->(A b (N #[] 9)).cell? (((Q ZK j Z):Addr).add q)=T u):=λq u hq=>by have h1:=(own_below R3 A4 ly).cells (g:=ZK) rfl (j+q) u (by rw[<-hq,bA,bA,KN,KN,List.getElem?_drop]);rw[addr_add,IT] at h1;rw[addr_add];exact h1
   have hjc:¬ l=j:=by omega
   have hI2:(0:Int)<=(j:Int):=by omega
   have hI3:(j:Int)<=(f:Int):=by omega
   have hI4:(f:Int)<=(l:Int):=by omega
   have Bk:(bA (making.drop j)).length=(f - j)*1:=by rw[bA,MP,LP,<-ZQ.out,Nat.mul_one]
   have Hb:=ae Bk;have la:∀u∈bA (making.drop j),u.oneCell'=ZD:=λu hu=>by rw[bA,LM] at hu;obtain⟨t,_,rfl⟩:=hu;rfl
   have Fk:=ae la;clear Bk la;have HG:Hid (∀r:E,(A b (N #[] 9)).grownBy r (T (z (B b)))->r.heap[hb]?=b.heap[hb]?/\r.heap[z (B w)]?=b.heap[z (B w)]?):=λr hg=>by
    have hz:(A b (N #[] 9)).heap.size=z (B b)+1:=by simp
    have Hl:=ah R.out;exact⟨(hg.block hb (by omega) (λe=>by have M:hb=z (B b):=IN e;omega)).trans (A4.block hb GS),(hg.block (z (B w)) (by omega) (λe=>by have M:z (B w)=z (B b):=IN e;omega)).trans (A4.block _ Hl)⟩
   have ZI:z (B b)<=(A b (N #[] 9)).heap.size:=by simp
   have Fd:(0+(f - j))*16<=140737488355328:=by omega
   have DQ:0+(f - j)<=maxLen:=by unfold maxLen;omega
   have DS:0+(f - j)≠0:=by omega
   go_wp2_with (first
    |(at_builtin;refine bX _ rfl (.tmp 129) (.tmp 135) 35 rfl (z (B b)) 9 i1 (U ⟨#[]⟩) 1 16 LL Ha Hm Hk Hq rfl (by decide) (Y (T (Q (z (B b)) 0 Z)) 0 0) 0 [] (by simp[Act.eval]) LO.out (Q ZK j Z) (f - j) (l - j) (bA (making.drop j)) (by simp[Act.eval]) Hb.out G8.out Fk.out DQ Fd ZI ?_;intro v4 r O p Hr;have O4:=ae O;have n8:=ae (HG r p).1;have ro:=ae (HG r p).2;have G4:=ae p;obtain⟨ZM,c4,cu4,rfl,He⟩:=O.2.resolve_left (λh=>DS h.2);clear He O p Hr;obtain⟨hbl4,-,-,-,-,-,f5,f6,f7,-,ff⟩:=(ShBox.ab ZN n8).D;have ff5:=ff 5;have ff6:=ff 6;have ff7:=ff 7;obtain⟨rl,r0,r1,r2,rf⟩:=bP (ro.trans R);have rf0:=rf 0;have rf1:=rf 1;have rf2:=rf 2;have hbw2:¬ (z (B w))=hb:=(λe=>hbw e.symm);have G:¬ hb=z (B w):=hbw;clear ff rf)
    |fail)
   refine bp (v:=ZG #[J I 6,U ⟨#[]⟩,Y (T (Q ZM 0 Z)) (f - j) c4]) (by simp[results,PE,go_sem,r0,r1,r2]) rfl ?_;have fd:(making.drop j).length=f - j:=by rw[LP,<-ZQ.out]
   have ex:=n8.trans ZN.out;have ph:=aw ex (j:=5) (J I 6);have sm:=aw ph (j:=6) (U ⟨#[]⟩);have Hv:=aw sm (j:=7) (Y (T (Q ZM 0 Z)) (f - j) c4);have ZO:(Value.slice (T (Q ZM 0 Z)) (f - j) c4).ownBlock≠T hb:=λe=>by obtain⟨_,_,n6,D⟩:=af O4 hb (by simpa[Value.ownBlock] using e);exact absurd (ai ex D) (by decide)
   have H:(Value.slice (T (Q ZM 0 Z)) (f - j) c4).ownBlock≠T (z (B w)):=λe=>by obtain⟨_,_,n6,D⟩:=af O4 (z (B w)) (by simpa[Value.ownBlock] using e);exact absurd (ai (ro.trans R) D) (by decide)
   have o4:r.ownsRow (z (B w0)) 9 1 (Y (T (Q ZM 0 Z)) (f - j) c4) (f - j) (bA (making.drop j)):=by have h1:=O4.out;rw[IT,LA] at h1;exact aF h1 (nL o V.aa.size)
   have k4:KS (z (B w0)) XN w r:=(V.to (KS.q (X:=XN) A4 ly (nL o V.aa.size))).to (KS.of_grown G4 (nL (nL o V.aa.size) ZI) λq hq=>by
    have M:q=z (B b):=(IN hq).symm;refine⟨by rw[M];exact nL o V.aa.size,.inr λl t fz ZP=>?_⟩;rw[M] at ZP
    exact .inl (ai ZP (gM b _)))
   have ZR:∀(W:E) (l:Array ZB) (t:ZH) (fz:Nat × Nat),W.heap[hb]?=r.heap[hb]?∨(∃c2,W.heap[hb]?=T (N c2 89 (0,0)))->W.heap[hb]?=T (N l t fz)->t=9∨t=161∨t=89:=λW l t fz hW ZP=>by
    rcases hW with hW|⟨c2,hW⟩
    {exact .inr (.inr (ai ZP (hW.trans ex)))};{exact .inr (.inr (ai ZP hW))}
   refine⟨T (Q ZM 0 Z),c4,by rw[fd];rfl,⟨_,_,_,_,_,(qh _ _ _ _ G).trans ((qh _ _ _ _ G).trans ((qh _ _ _ _ G).trans (by rw[fd];exact Hv))),?_⟩,?_⟩;{show World.ownsRow _ _ _ _ _ (making.drop j).length _;rw[fd];exact aA (aA (aA (aA (aA (aA o4 ZO _ _) ZO _ _) ZO _ _) H _ _) H _ _) H _ _}
   ·have k7:=((k4.to (KS.setCell (X:=XN) r aq (.inr λl t fz=>ZR _ l t fz (.inl rfl)) (J I 6) (j:=5))).to (KS.setCell (X:=XN) _ aq (.inr λl t fz=>ZR _ l t fz (.inr ⟨_,ph⟩)) (U ⟨#[]⟩) (j:=6))).to (KS.setCell (X:=XN) _ aq (.inr λl t fz=>ZR _ l t fz (.inr ⟨_,sm⟩)) (Y (T (Q ZM 0 Z)) (f - j) c4) (j:=7));refine((k7.trans (KS.setCell (X:=λi=>i=z (B w)) _ o (Or.inl rfl) _) ?_).trans (KS.setCell (X:=λi=>i=z (B w)) _ o (Or.inl rfl) _) ?_).trans (KS.setCell (X:=λi=>i=z (B w)) _ o (Or.inl rfl) _) ?_;all_goals
     intro i hi h;have M:i=z (B w):=h;omega
end
def fU (nm:ByteArray):SM:=⟨nm,0,⟨#[]⟩,[],Y Z 0 0,ZA⟩
theorem DW (w:E)(f i l n b m:ZB)(t:ZH):∀j u,[f,i,l,n,b,m][j]?=T u->(A w (N #[f,i,l,n,b,m] t)).cell? (((Q (z (B w)) 0 Z):Addr).add j)=T u:=by
 intro j u h;rw[addr_add];have hj:j<6:=by
  rcases MG j 6 with g|g;{exact g};{rw[LJ (by simp;omega)] at h;cases h}
 rcases(show j=0∨j=1∨j=2∨j=3∨j=4∨j=5 by omega) with rfl|rfl|rfl|rfl|rfl|rfl;all_goals
  simp at h;subst h;simp
theorem oZ (w:E)(v:ZB)(t:ZH):∀j u,[v][j]?=T u->(A w (N #[v] t)).cell? (((Q (z (B w)) 0 Z):Addr).add j)=T u:=by
 intro j u h;rw[addr_add];have f:j=0:=by
  rcases MG j 1 with b|b;{omega};{rw[LJ (by simp;omega)] at h;cases h}
 subst f;simp at h;subst h;simp
theorem ju{w:E}{v:ZB}{f:List ZB}(h:w.ownsRow b e size v n f):∃a cap,v=Y a n cap:=by
 obtain⟨_,⟨rfl,rfl⟩|⟨g,cap,cur,rfl,_⟩⟩:=h;{exact⟨Z,0,rfl⟩};{exact⟨_,_,rfl⟩}
theorem KS.fresh{W w:E}(h:KS ZS XN W w)(hb:z (B W)<=b)(g:ZS<=z (B W))(j:Nat)(u:ZB):KS ZS XN W (w.setCell (Q b j Z) u) :=
 h.trans (KS.setCell (X:=λi=>i=b) w (nL g hb) (Or.inl rfl) u) λi hi f=>by have e2:i=b:=f;omega
section
variable {w0 w:E}{hb:Nat}{s0 s1 or st:ZB}{making:List ByteArray}{made:List Ent}{L:List SM}
theorem SI.upd'{k:Nat}(l:L.length=ZN)(h:SI w0 hb s0 s1 w making made L (Y (T (Q g 0 Z)) ZN cap) or st)(b:L[k]?=T m)(i:j<6)(f:smV m'=(smV m).set j u)(n:m'.done=ZD->w.ownsRow (z (B w0)) 164 3 m'.sv m'.V.length (eh m'.V)):SI w0 hb s0 s1 (w.setCell (Q g (k*6+j) Z) u) making made (L.set k m') (Y (T (Q g 0 Z)) ZN cap) or st/\KS (z (B w0)) XN w (w.setCell (Q g (k*6+j) Z) u)/\(L.set k m')[k]?=T m'/\(L.set k m').length=ZN:=by subst l;have:=h.upd b i f n;rw[KQ] at this;exact⟨this.1,this.2,L8 (j5.1 b).1,KQ⟩
theorem SI.told{k:Nat}(y:L.length=ZN)(h:SI w0 hb s0 s1 w making made L (Y (T (Q g 0 Z)) ZN cap) or st)(r:L[k]?=T m)(ZS:m.done=ZA)(b:Int)(f:ByteArray):SI w0 hb s0 s1 (((w.setCell (Q g (k*6+1) Z) (J I b)).setCell (Q g (k*6+1+1) Z) (U f)).setCell (Q g (k*6+1+2) Z) (Y Z 0 0)) making made (L.set k ⟨m.e,b,f,m.V,m.sv,ZA⟩) (Y (T (Q g 0 Z)) ZN cap) or st/\KS (z (B w0)) XN w (((w.setCell (Q g (k*6+1) Z) (J I b)).setCell (Q g (k*6+1+1) Z) (U f)).setCell (Q g (k*6+1+2) Z) (Y Z 0 0))/\(L.set k ⟨m.e,b,f,m.V,m.sv,ZA⟩)[k]?=T ⟨m.e,b,f,m.V,m.sv,ZA⟩/\(L.set k ⟨m.e,b,f,m.V,m.sv,ZA⟩).length=ZN:=by obtain⟨a1,ZT,ZR,o⟩:=h.upd' y r (j:=1) (by omega) (u:=J I b) (m':=⟨m.e,b,m.H,m.V,m.sv,ZA⟩) (by simp[smV,ZS]) (λh=>by cases h);obtain⟨t,s,p,x⟩:=a1.upd' o ZR (j:=2) (by omega) (u:=U f) (m':=⟨m.e,b,f,m.V,m.sv,ZA⟩) rfl (λh=>by cases h);obtain⟨l,q,i,n⟩:=t.upd' x p (j:=3) (by omega) (m':=⟨m.e,b,f,m.V,m.sv,ZA⟩) (u:=Y Z 0 0) rfl (λh=>by cases h);rw[SV,SV] at l i n;exact⟨l,(ZT.to s).to q,i,n⟩
end
theorem GM{ZR:Int}(h0:0<=ZR)(h1:ZR<=1048576):IntKind.i64.wrap ZR=ZR:=by rw[p9];omega
theorem Gs{w:E}{f:Nat}{t:ZH}{v:ZB}{j:List ZB}{i:Array ZB}{fz:Nat × Nat}(h:w.ownsRow f e size v n j)(hb:w.heap[b]?=T (N i t fz))(g:e≠t):v.ownBlock≠T b:=λk=>by obtain⟨_,_,cs',l⟩:=af h b k;exact g (ai l hb)
theorem Gt{w w':E}{v:ZB}{b:List ZB}(h:w.ownsRow ZS 164 3 v n b)(f:KS ZS XN w w'):w'.ownsRow ZS 164 3 v n b:=bO h λk e=>by obtain⟨_,_,cs,g⟩:=af h k e;exact f.ab _ _ _ _ g (by decide) (by decide) (by decide) λh=>h
theorem LExt.add (n:Nat)(L:List SM)(h:m.done=ZA):LExt n L (L++[m]):=by
 refine⟨λi g b=>⟨g,?_,rfl⟩,λg b f=>?_⟩;{rw[KP (j5.1 b).1];exact b};{rcases wC.1 b with b|b;{exact .inl ⟨g,b,f,rfl⟩};{rw[hU.1 b,h] at f;cases f}}
theorem LExt.set{k:Nat}{L l:List SM}{f:SM}(h:LExt n L l)(q:l[k]?=T m)(u:f.e=m.e)(x:∀j,f.sv.ownBlock=T j->n<=j):LExt n L (l.set k f):=by
 refine⟨λi o b=>?_,λo b t=>?_⟩
 ·obtain⟨y,p,s⟩:=h.nam i o b;by_cases g:k=i
  ·subst g;rw[q] at p;cases p
   exact⟨f,L8 (j5.1 q).1,u.trans s⟩
  {exact⟨y,by rw[NK g];exact p,s⟩}
 {rcases LN b with r|rfl;{exact h.sn o r t};{exact .inr x}}
section
variable {w0:E}{S:Spc}{a0 a1:Option Addr}{c0 c1 hb:Nat}{md or st:ZB}{making:List ByteArray}{made:List Ent}{L:List SM}
set_option linter.unusedVariables false in
theorem lP:(∀(C:oU w0 S a0 a1) (w:E) (nm:ByteArray) (h:SI w0 hb (Y a0 S.n0 c0) (Y a1 S.n1 c1) w making made L md or st) (H9:L.length<=100000) (Jk:made.length<=100000) (h1:fI L nm=Z) (h3:atI (nm1 S.f1) S.n1 nm=Z) (f:Int) (tx:ByteArray) (hw:(atI (nm0 S.f0) S.n0 nm=Z/\f=4/\tx=nm)∨∃si,atI (nm0 S.f0) S.n0 nm=T si/\f=0/\tx=(S.f0 si).H) (kd:Int) (te:ByteArray),Calls Pg 91 #[.pointer (T (Q hb 0 Z)),U nm] w λe w'=>∃Hh He,e=ZF (ZG #[J I f,U tx,Y Z 0 0])/\SI w0 hb (Y a0 S.n0 c0) (Y a1 S.n1 c1) w' making (made++[⟨nm,kd,0,te,0,[]⟩]) ((L++[fU nm]).set L.length ⟨nm,f,tx,[],Y Z 0 0,ZD⟩) Hh He st/\KS (z (B w0)) XN w w')/\(∀(C:oU w0 S a0 a1) (w:E) (nm:ByteArray) (h:SI w0 hb (Y a0 S.n0 c0) (Y a1 S.n1 c1) w making made L md or st) (H9:L.length<=100000) (h1:fI L nm=Z) (hi:atL making nm=Z) (tg:Nat) (h3:atI (nm1 S.f1) S.n1 nm=T tg) (X:Out Ent) (hd:(making.length=60/\X=.inr (.inr nm))∨∃n',making.length+(n'+1)=60/\mS w0 S hb (Y a0 S.n0 c0) (Y a1 S.n1 c1) n'/\fq L making made/\PG S making made/\eQ S making made 1/\MT S making/\aO made nm=Z/\X=gR nm tg (bR S (aP S n' (making++[nm])) tg 201 made [] [])),Calls Pg 91 #[.pointer (T (Q hb 0 Z)),U nm] w λe w'=>lL w0 hb (Y a0 S.n0 c0) (Y a1 S.n1 c1) making L w e w' X):=by
 refine⟨λC w nm h H9 Jk h1 h3 f tx hw kd te=>?_,λC w nm h H9 h1 hi tg h3 X hd=>?_⟩;rotate_left;focus
  rcases hd with ⟨Hp,hX⟩|⟨n',JQ,HK,hrel,hp,sm,Jr,ZI,hX⟩
  case' inl=>(subst hX;have DEEP:=True.intro)
  case' inr =>
   obtain⟨-,aq⟩:=AG hrel ZI hi;have hmade:made.length<=50000:=by unfold eQ at sm;omega
   have Hp:making.length<60:=by omega
   have n8:=(bc h3).1;obtain⟨R,hR⟩:∃R,R=bR S (aP S n' (making++[nm])) tg 201 made [] []:=⟨_,rfl⟩
   have HR:=ae hR;obtain⟨tb,Jz,Jh,Iu⟩:=C.w.resolve_left (by omega);have Ke:=ae Jh;have Ht:=ae Iu;have Il:Hid (∀(W:E) (Hh He II:ZB) (a:Option Addr) (cap:Nat),SI w0 hb (Y a0 S.n0 c0) (Y a1 S.n1 c1) W (making++[nm]) made (L++[fU nm]) Hh He II->SlIns w0 a (S.f1 tg).h (S.f1 tg).u->Calls Pg 141 #[.pointer (T (Q hb 0 Z)),ZG #[Y a (S.f1 tg).h cap]] W λe w'=>oX w0 hb (Y a0 S.n0 c0) (Y a1 S.n1 c1) (making++[nm]) (L++[fU nm]) W e w' R):=by
    intro W Hh He II a cap hS H7;rw[hR];refine DJ C n' HK made _ Hh He II W a cap tg (by rw[eL,AT];omega) hS (rX hrel aq rfl rfl) (gS hp ZI) ?_ ?_ n8 H7
    ·have:=fK n8 (bc h3).2 ZI hi
     unfold eQ at sm ⊢;omega
    ·intro t ht
     rcases wC.1 ht with ht|ht
     ·exact Jr t ht
     ·rw[hU.1 ht,h3];rfl
   have HI:=ae hi;have H0:=ae ZI;have Jj:Hid (∀G x,R=.inl (G,x)->G.length<=100000/\∀y∈G,y.e≠nm):=by intro G x he;rw[hR] at he;have g1:=gu C.ok n8 (cX C.ok n' (making++[nm])) _ _ _ _ _ _ (gS hp ZI) (gL S made) rfl he;have l:=rI (λmade Kf Jf e=>gJ S n' (making++[nm]) made Kf Jf e) _ _ _ _ _ _ he;have g3:=fK n8 (bc h3).2 ZI hi;refine⟨?_,(iW g1.1).2⟩;unfold fx at l;unfold eQ at sm;omega
   have Js:=ae aq;have HREL:=ae hrel;subst hX;rw[<-hR];clear HK hp sm Jr ZI Iu Jh hR aq hrel;clear JQ n8
 all_goals
  obtain⟨im,Ka,Kc,DE,Im⟩:=kq Dw;obtain⟨i1,IU,Ja,IC,Jb⟩:=kq oV;obtain⟨W0,Hr⟩:∃W:E,A w (N #[J I 0,U ⟨#[]⟩,Y Z 0 0] 37)=W:=⟨_,rfl⟩
  obtain⟨A0,kr,-⟩:=nb1 Hr;have IP:=ae Hr;clear Hr;have S0:=ae (h.aa A0 ly);have D:z (B w0)<=z (B w):=h.lt;have e1:dW (fI L nm)=-1:=by rw[h1];rfl
  obtain⟨am,cm,rfl⟩:=ju h.ag;obtain⟨n,hn⟩:∃n,n=L.length:=⟨_,rfl⟩
  have HN:=ae hn;have CC:=ae C;have hsm:=C.ok.av;have hn1:n<=100000:=by omega
  clear h h1 hn C
 rotate_left 2;focus
  have et:dW (atI (nm1 S.f1) S.n1 nm)=-1:=by rw[h3];rfl
  rcases hw with ⟨h2,DQ,IX⟩|⟨si,h2,DQ,IX⟩
  case' inl=>have es:dW (atI (nm0 S.f0) S.n0 nm)=-1:=by rw[h2];rfl
  case' inr =>
   have es:dW (atI (nm0 S.f0) S.n0 nm)=(si:Int):=by rw[h2];rfl
   have Kq:=(bc h2).1;obtain⟨sb,so,Jp,Ju⟩:∃sb so,a0=T (Q sb so Z)/\RowSource w0 sb so S.n0 S.f0:=by
    rcases CC.src with h|⟨b,off,e,hr⟩
    ·omega
    ·exact⟨b,off,e,hr⟩
   have IG:=ae Ju;have JX:=ae Jp;clear Ju Jp
  all_goals
   have Jt:=ae IX;have JA:=ae DQ;clear h2 h3 IX DQ
 rotate_left 2;iterate 2
  focus
   obtain⟨es0,es⟩:∃ZR,dW (atI (nm0 S.f0) S.n0 nm)=ZR:=⟨_,rfl⟩
   have et:dW (atI (nm1 S.f1) S.n1 nm)=(tg:Int):=by rw[h3];rfl
   have Jc:∀(j:Nat) (y:ByteArray),making[j]?=T y->(y.toList == nm.toList)=ZA:=λj y hy=>by unfold atL at hi;rw[NZ] at hi;exact hi y (J2 hy)
   have Ko:=ae Jc;obtain⟨ms,Iv⟩:∃ms,ms=making.length:=⟨_,rfl⟩
   have fd:=ae Iv;have hT0:(0:Int)<=(tg:Int):=by omega
   have n8:=(bc h3).1;rw[<-Iv] at Hp;obtain⟨JB,JD,rfl⟩:=ju S0.rst;clear h3 hi Jc Iv
  rotate_left
 all_goals
  go_enter func91,ntmps91;go_wp2_with fail;rw[IP.out];clear IP;refine(oT W0 nm S0 H9).mono ?_;rintro e w1 ⟨rfl,Jv⟩;rw[Jv,e1];clear Jv e1;obtain⟨ZP,-,-,b2,-⟩:=S0.l.D;rw[<-HN.out] at b2;have A1:=ae ((BS W0).alloc ly (N #[U nm,J I 0,U ⟨#[]⟩,Y Z 0 0,Y Z 0 0,ZC ZA] 161));have SA:=ae (S0.aa A1 ly);have RM:=ae (by have h:=SA.ag;rw[<-HN.out] at h;exact h);have Kb:(A W0 (N #[U nm,J I 0,U ⟨#[]⟩,Y Z 0 0,Y Z 0 0,ZC ZA] 161)).heap.size=z (B W0)+1:=by simp
  have HG:Hid (∀M:E,(A W0 (N #[U nm,J I 0,U ⟨#[]⟩,Y Z 0 0,Y Z 0 0,ZC ZA] 161)).grownBy M (Value.slice am n cm).ownBlock->M.heap[hb]?=(A W0 (N #[U nm,J I 0,U ⟨#[]⟩,Y Z 0 0,Y Z 0 0,ZC ZA] 161)).heap[hb]?):=λM hg=>hg.block hb (by omega) λe=>by obtain⟨_,_,cs,hc⟩:=af RM hb e.symm;exact absurd (ai SA.l hc) (by decide)
  have JM:z (B w0)<=(A W0 (N #[U nm,J I 0,U ⟨#[]⟩,Y Z 0 0,Y Z 0 0,ZC ZA] 161)).heap.size:=SA.lt;have hz1':z (B W0)<(A W0 (N #[U nm,J I 0,U ⟨#[]⟩,Y Z 0 0,Y Z 0 0,ZC ZA] 161)).heap.size:=by omega
  clear Kb
  go_upto_region 7 with (first
   |(at_builtin;refine bX _ rfl (.tmp 46) (.tmp 49) 87 rfl (z (B w0)) 161 im (ZG #[U ⟨#[]⟩,J I 0,U ⟨#[]⟩,Y Z 0 0,Y Z 0 0,ZC ZA]) 6 96 underlying87 Ka Kc DE Im rfl (by decide) (Y am n cm) n (L.flatMap smV) (by simp[Act.eval]) RM.out (Q (z (B W0)) 0 Z) 1 1 [U nm,J I 0,U ⟨#[]⟩,Y Z 0 0,Y Z 0 0,ZC ZA] (by simp[Act.eval]) rfl (DW W0 _ _ _ _ _ _ _) (by simp[Value.oneCell']) (by unfold maxLen;omega) (by omega) JM ?_;intro v2 M H r la;have O2:=ae H;have G2:=ae r;have Jq:=ae (HG M r);obtain⟨l,Fk,cu2,rfl,Kr⟩:=H.2.resolve_left (λh=>by omega);clear Kr H r la;obtain⟨JH,-,-,f2,-,-,-,-,-,-,ff⟩:=(ShBox.ab SA.l Jq).D;have Kj:=ff 2;clear ff)
   |fail)
  have SX:=ae (SA.addL (m:=fU nm) (w':=M) (v:=Y (T (Q l 0 Z)) (n+1) Fk) (by rw[<-HN.out];exact G2) (by rw[<-HN.out];exact O2) rfl);have S3:=ae SX.1;have K3:Hid (KS (z (B w0)) XN w (M.setCell (Q hb 2 Z) (Y (T (Q l 0 Z)) (n+1) Fk))):=((KS.q (X:=XN) A0 ly D).to (KS.q A1 ly S0.lt)).to SX.2;have Ic:Hid ((M.setCell (Q hb 2 Z) (Y (T (Q l 0 Z)) (n+1) Fk)).heap[z (B w)]?=T (N #[J I 0,U ⟨#[]⟩,Y Z 0 0] 37 (0,0))):=by have ZI:=(A1.block _ (ah kr)).trans kr;exact(SX.2.ab _ _ _ _ ZI (by decide) (by decide) (by decide) λh=>h).trans ZI
  have bt:(L++[fU nm]).length=n+1:=by rw[eL,AT,<-HN.out]
  have ex:Hid ((L++[fU nm])[n]?=T (fU nm)):=by rw[HN.out];show _=_;rw[KL ly,SU];rfl
  clear SX f2 Kj JH b2 ZP RM SA A1 HG O2 G2 Jq;generalize World.setCell M _ _=W3 at S3 K3 Ic ⊢;obtain⟨ZP,b0,b1,-⟩:=S3.l.D;go_wp2_with fail;refine(gY a0 S.n0 c0 a1 S.n1 c1 S.f0 nm W3 (by omega) (CC.src.aa S3.ak ly)).mono ?_;rintro e w4 ⟨he,hB⟩;rw[es] at he;subst he;have S4:=ae (S3.aa hB ly);have Iy:Hid (w4.heap[z (B w)]?=_):=(hB.block _ (ah Ic)).trans Ic;have K4:=ae (K3.to (KS.q (X:=XN) hB ly S3.lt));clear hB b0 b1 ZP S3 K3 Ic;obtain⟨ZP,b0,b1,-⟩:=S4.l.D;go_wp2_with fail;refine(gZ a0 S.n0 c0 a1 S.n1 c1 S.f1 nm w4 (by omega) (CC.w.aa S4.ak ly)).mono ?_;rintro e ZM ⟨he,hB⟩;rw[et] at he;subst he;have S5:=ae (S4.aa hB ly);have ph:Hid (ZM.heap[z (B w)]?=T (N #[J I 0,U ⟨#[]⟩,Y Z 0 0] 37 (0,0))):=(hB.block _ (ah Iy)).trans Iy;have K5:=ae (K4.to (KS.q (X:=XN) hB ly S4.lt));clear hB b0 b1 ZP S4 K4 Iy A0 S0 kr
 iterate 2
  ·first
    |guard_hyp IG
     have A5:=ae ((BS ZM).alloc ly (N #[J I 4,U nm,Y Z 0 0] 37));have It:=ae (S5.aa A5 ly);have hI0:(0:Int)<=(si:Int):=by omega
     have hI1:(si:Int)<(S.n0:Int):=by omega
     have q0:(A ZM (N #[J I 4,U nm,Y Z 0 0] 37)).cell? (Q hb 0 Z)=T (Y (T (Q sb so Z)) S.n0 c0):=by have h:=It.l.D.2.1;rw[JX.out] at h;exact h
     have q1:(A ZM (N #[J I 4,U nm,Y Z 0 0] 37)).cell? (Q sb (so+si*2+1) Z)=T (U tx):=by rw[Jt.out];exact((IG.aa It.ak ly).2 si Kq).2
     have ZP:=S5.l.D.1;have ql:sb<z (B ZM):=lj IG.1 S5.lt;go_upto_region 13 with fail;clear q0 q1 ql ZP A5 It;obtain⟨ZT,Hv⟩:∃W:E,A ZM (N #[J I 0,U tx,Y Z 0 0] 37)=W:=⟨_,rfl⟩
     obtain⟨A6,-,-⟩:=nb1 Hv;have Hu:=ae Hv;clear Hv;have kb:Hid (ZT.heap[z (B ZM)]?=T (N #[J I f,U tx,Y Z 0 0] 37 (0,0))):=by rw[<-Hu.out];rw[JA.out];exact gM _ _
     rw[Hu.out];clear Hu
    |skip
     go_upto_region 13 with fail;have kb:Hid ((A ZM (N #[J I 4,U nm,Y Z 0 0] 37)).heap[z (B ZM)]?=T (N #[J I f,U tx,Y Z 0 0] 37 (0,0))):=by rw[JA.out,Jt.out];exact gM _ _
     have A6:=ae ((BS ZM).alloc ly (N #[J I 4,U nm,Y Z 0 0] 37));generalize World.alloc ZM _=ZT at A6 kb ⊢
   have ZL:=ae (S5.aa A6 ly);have n9:Hid (ZT.heap[z (B w)]?=T (N #[J I 0,U ⟨#[]⟩,Y Z 0 0] 37 (0,0))):=(A6.block _ (ah ph)).trans ph;have K6:=ae (K5.to (KS.q (X:=XN) A6 ly S5.lt));obtain⟨s,Hf⟩:∃s,s=z (B ZM):=⟨_,rfl⟩
   rw[<-Hf] at kb ⊢;have JR:z (B w)<=s:=by have:=K5.aa.size;omega
   clear Hf A6 S5 ph K5;obtain⟨ZP,-,-,b2,-⟩:=ZL.l.D;obtain⟨rl,r0,r1,r2,-⟩:=bP kb;obtain⟨JP,JI,Ib,ur⟩:=af ZL.ag l rfl;have At:=ae ur;have R6:=ae (by have h:=ZL.ag;rw[bt] at h;exact h);have q1:ZT.cell? (Q l (n*6+1) Z)=T (J I 0):=cE (by rw[bt];exact R6) ex 1 (by omega) rfl;have q2:ZT.cell? (Q l (n*6+1+1) Z)=T (U ⟨#[]⟩):=cE (by rw[bt];exact R6) ex 2 (by omega) rfl;have q3:ZT.cell? (Q l (n*6+1+2) Z)=T (Y Z 0 0):=cE (by rw[bt];exact R6) ex 3 (by omega) rfl;have qf:∀j,ZT.frozen? (Q l j Z)=ZA:=λj=>by simp[World.frozen?,ur]
   have Je:=qf (n*6+1);have IA:=qf (n*6+1+1);have Iq:=qf (n*6+1+2);clear qf ur;have Kh:(n:Int)<(n:Int)+1:=by omega
   have ld:l≠hb:=by intro e;have h:=At.out;rw[e] at h;exact absurd (ai h ZL.l) (by decide)
   have o:l≠s:=by intro e;have h:=At.out;rw[e] at h;exact absurd (ai h kb) (by decide)
   refine wp_region_held_drew (S:=λV=>V.cell? (Q hb 2 Z)=T (Y (T (Q l 0 Z)) (n+1) Fk)/\V.cell? (Q s 0 Z)=T (J I f)/\V.cell? (Q s 1 Z)=T (U tx)/\V.cell? (Q s 2 Z)=T (Y Z 0 0)) (by kernel_rfl) ⟨b2,r0,r1,r2⟩ λhS=>?_;have HS:=ae hS;clear hS
   iterate 8
    first|refine ba 0 (v:=?_) rfl rfl (by kernel_rfl) (λ_ _ _ h=>h) rfl ?_ HS ?_|refine ba 4 (v:=?_) rfl rfl (by kernel_rfl) (λ_ _ _ h=>h) rfl ?_ HS ?_
    rotate_left
    ·(rintro wz ⟨s0,s1,s2,s3⟩;go_simp)
     (try with_reducible rfl)
    (try simp only[Act.put,nzL])
   have TL:=ae (ZL.told bt ex rfl f tx)
   have Hj:Hid ((((ZT.setCell (Q l (n*6+1) Z) (J I f)).setCell (Q l (n*6+1+1) Z) (U tx)).setCell (Q l (n*6+1+2) Z) (Y Z 0 0)).drew.cell? (Q hb 2 Z)=T (Y (T (Q l 0 Z)) (n+1) Fk)/\(((ZT.setCell (Q l (n*6+1) Z) (J I f)).setCell (Q l (n*6+1+1) Z) (U tx)).setCell (Q l (n*6+1+2) Z) (Y Z 0 0)).drew.cell? (Q s 0 Z)=T (J I f)/\(((ZT.setCell (Q l (n*6+1) Z) (J I f)).setCell (Q l (n*6+1+1) Z) (U tx)).setCell (Q l (n*6+1+2) Z) (Y Z 0 0)).drew.cell? (Q s 1 Z)=T (U tx)/\(((ZT.setCell (Q l (n*6+1) Z) (J I f)).setCell (Q l (n*6+1+1) Z) (U tx)).setCell (Q l (n*6+1+2) Z) (Y Z 0 0)).drew.cell? (Q s 2 Z)=T (Y Z 0 0)) :=
    ⟨(cell_far _ _ _ _ ld).trans ((cell_far _ _ _ _ ld).trans ((cell_far _ _ _ _ ld).trans b2)),(cell_far _ _ _ _ o).trans ((cell_far _ _ _ _ o).trans ((cell_far _ _ _ _ o).trans r0)),(cell_far _ _ _ _ o).trans ((cell_far _ _ _ _ o).trans ((cell_far _ _ _ _ o).trans r1)),(cell_far _ _ _ _ o).trans ((cell_far _ _ _ _ o).trans ((cell_far _ _ _ _ o).trans r2))⟩
   refine aN (i:=8) rfl (by kernel_rfl) λK hK=>?_;go_simp;refine hK _ _ Hj ?_;clear hK K HS q1 q2 q3 Je IA Iq b2 r0 r1 r2 rl
   (try simp only[Act.put])
   refine wpAnyH_done (by kernel_rfl) ?_ _;have D7:Hid (Below (((ZT.setCell (Q l (n*6+1) Z) (J I f)).setCell (Q l (n*6+1+1) Z) (U tx)).setCell (Q l (n*6+1+2) Z) (Y Z 0 0)).heap.size (((ZT.setCell (Q l (n*6+1) Z) (J I f)).setCell (Q l (n*6+1+1) Z) (U tx)).setCell (Q l (n*6+1+2) Z) (Y Z 0 0)) (((ZT.setCell (Q l (n*6+1) Z) (J I f)).setCell (Q l (n*6+1+1) Z) (U tx)).setCell (Q l (n*6+1+2) Z) (Y Z 0 0)).drew):=br.drew;have S7:=ae (TL.1.aa D7 ly);have K7:=ae (K6.to (TL.2.1.to (KS.q (X:=XN) D7 ly TL.1.lt)));have Hd:=TL.2.2.1;have Ho:=TL.2.2.2;have P:Hid ((((ZT.setCell (Q l (n*6+1) Z) (J I f)).setCell (Q l (n*6+1+1) Z) (U tx)).setCell (Q l (n*6+1+2) Z) (Y Z 0 0)).drew.heap[z (B w)]?=T (N #[J I 0,U ⟨#[]⟩,Y Z 0 0] 37 (0,0))):=by have ZI:=(TL.2.1.ab _ _ _ _ n9 (by decide) (by decide) (by decide) λh=>h).trans n9;exact ZI
   have n7:Hid ((((ZT.setCell (Q l (n*6+1) Z) (J I f)).setCell (Q l (n*6+1+1) Z) (U tx)).setCell (Q l (n*6+1+2) Z) (Y Z 0 0)).drew.heap[s]?=T (N #[J I f,U tx,Y Z 0 0] 37 (0,0))):=by have ZI:=(TL.2.1.ab _ _ _ _ kb (by decide) (by decide) (by decide) λh=>h).trans kb;exact ZI
   have Fm:=ae Hd;have Fd:=ae Ho;clear TL Hj Hd Ho n9 kb K6 ZL R6 At D7;generalize World.drew (World.setCell (World.setCell (World.setCell ZT _ _) _ _) _ _)=W7 at S7 K7 P n7 ⊢;obtain⟨ZP,-,-,b2,-⟩:=S7.l.D;obtain⟨H6,Ig,Jl,qr⟩:=af S7.ag l rfl;have q5:W7.cell? (Q l (n*6+5) Z)=T (ZC ZA):=cE (by have h:=S7.ag;rw[Fd.out] at h ⊢;exact h) Fm 5 (by omega) rfl;have IB:W7.frozen? (Q l (n*6+5) Z)=ZA:=by simp[World.frozen?,qr]
   have TD:=ae (S7.upd' Fd Fm (j:=5) (by omega) (u:=ZC ZD) (m':=⟨nm,f,tx,[],Y Z 0 0,ZD⟩) rfl (λ_=>⟨rfl,.inl ⟨rfl,rfl⟩⟩));have ZS:Hid ((W7.setCell (Q l (n*6+5) Z) (ZC ZD)).heap[z (B w)]?=T (N #[J I 0,U ⟨#[]⟩,Y Z 0 0] 37 (0,0))):=(TD.2.1.ab _ _ _ _ P (by decide) (by decide) (by decide) λh=>h).trans P;have ZJ:Hid ((W7.setCell (Q l (n*6+5) Z) (ZC ZD)).heap[s]?=T (N #[J I f,U tx,Y Z 0 0] 37 (0,0))):=(TD.2.1.ab _ _ _ _ n7 (by decide) (by decide) (by decide) λh=>h).trans n7;have S8:=ae TD.1;have K8:=ae (K7.to TD.2.1);clear qr;go_upto_region 15 with fail;clear b2 q5 IB TD S7 K7 P n7;generalize World.setCell W7 _ _=ZO at S8 K8 ZS ZJ ⊢;obtain⟨ao,co,rfl⟩:=ju S8.ror;obtain⟨q,hq⟩:∃q,q=made.length:=⟨_,rfl⟩
   have HQ:=ae hq;rw[<-hq] at Jk;clear hq;obtain⟨ZP,-,-,-,b3,-⟩:=S8.l.D;rw[<-HQ.out] at b3;have O:=ae ((BS ZO).alloc ly (N #[U nm] 9));have S9:=ae (S8.aa O ly);have RO:=ae (by have h:=S9.ror;rw[<-HQ.out] at h;exact h);have Hq:z (B w0)<=(A ZO (N #[U nm] 9)).heap.size:=S9.lt;have HG:Hid (∀M:E,(A ZO (N #[U nm] 9)).grownBy M (Value.slice ao q co).ownBlock->M.heap[hb]?=(A ZO (N #[U nm] 9)).heap[hb]?/\M.heap[z (B w)]?=(A ZO (N #[U nm] 9)).heap[z (B w)]?/\M.heap[s]?=(A ZO (N #[U nm] 9)).heap[s]?):=λM hg=>by
    have aq:∀(i:Nat) (cs:Array ZB) (t:ZH) (fz:Nat × Nat),(A ZO (N #[U nm] 9)).heap[i]?=T (Obj.cells cs t fz)->t≠9->M.heap[i]?=(A ZO (N #[U nm] 9)).heap[i]?:=λi cs t fz hi ht=>hg.block i (ah hi) λe=>by obtain⟨_,_,Ib,hc⟩:=af RO i e.symm;exact ht (ai hi hc)
    exact⟨aq _ _ _ _ S9.l (by decide),aq _ _ _ _ ((O.block _ (ah ZS)).trans ZS) (by decide),aq _ _ _ _ ((O.block _ (ah ZJ)).trans ZJ) (by decide)⟩
   have Hg:Hid ((A ZO (N #[U nm] 9)).heap[z (B w)]?=T (N #[J I 0,U ⟨#[]⟩,Y Z 0 0] 37 (0,0))):=(O.block _ (ah ZS)).trans ZS;have IE:Hid ((A ZO (N #[U nm] 9)).heap[s]?=T (N #[J I f,U tx,Y Z 0 0] 37 (0,0))):=(O.block _ (ah ZJ)).trans ZJ;have hbw:¬ hb=z (B w):=λe=>by have h:=S8.l;unfold ShBox at h;rw[e] at h;exact absurd (ai h ZS) (by decide)
   have th:¬ (z (B w))=hb:=λe=>hbw e.symm;have Io:¬ hb=s:=λe=>by have h:=S8.l;unfold ShBox at h;rw[e] at h;exact absurd (ai h ZJ) (by decide)
   have JG:¬ s=hb:=λe=>Io e.symm
   go_wp2_with (first
    |(at_builtin;refine bX _ rfl (.tmp 100) (.tmp 102) 35 rfl (z (B w0)) 9 i1 (U ⟨#[]⟩) 1 16 LL IU Ja IC Jb rfl (by decide) (Y ao q co) q (bA (made.map (·.e))) (by simp[Act.eval]) RO.out (Q (z (B ZO)) 0 Z) 1 1 [U nm] (by simp[Act.eval]) rfl (oZ ZO _ _) (by simp[Value.oneCell']) (by unfold maxLen;omega) (by omega) Hq ?_;intro v9 w9 H r la;have O9:=ae H;have G9:=ae r;have Ik:=ae la;have mv:=ae (HG w9 r);obtain⟨g9,c9,JZ,rfl,Iw⟩:=H.2.resolve_left (λh=>by omega);clear Iw H r la;obtain⟨JK,-,-,-,f3,-,-,-,-,-,ff⟩:=(ShBox.ab S9.l mv.1).D;have JU:=ff 3;obtain⟨rl,r0,r1,r2,rf⟩:=bP (mv.2.1.trans Hg);have IK:=rf 0;have Iz:=rf 1;have IL:=rf 2;obtain⟨pl,p0,p1,p2,pf⟩:=bP (mv.2.2.trans IE);clear ff rf pf)
    |fail)
   have Hk:=ae (S9.ord (x:=⟨nm,kd,0,te,0,[]⟩) (w':=w9) (v:=Y (T (Q g9 0 Z)) (q+1) c9) (by rw[<-HQ.out];exact G9) (by rw[<-HQ.out];exact O9) (by rw[<-HQ.out];exact Ik));refine bp (v:=ZG #[J I f,U tx,Y Z 0 0]) (by simp[results,PE,go_sem,r0,r1,r2]) rfl ?_;have Hm:=(qh w9 (Q hb 3 Z) (Y (T (Q g9 0 Z)) (q+1) c9) (z (B w)) th).trans (mv.2.1.trans Hg);refine⟨Y (T (Q l 0 Z)) (n+1) Fk,Y (T (Q g9 0 Z)) (q+1) c9,rfl,?_,?_⟩
   ·rw[<-HN.out]
    have x0:=Hk.1;rw[SV] at x0;replace x0:=x0.ad Hm ⟨by decide,by decide,by decide,by decide⟩ D 0 (J I f);have y0:=aw Hm (j:=0) (J I f);have x1:=x0.ad y0 ⟨by decide,by decide,by decide,by decide⟩ D 1 (U tx);exact x1.ad (aw y0 (j:=1) (U tx)) ⟨by decide,by decide,by decide,by decide⟩ D 2 (Y Z 0 0)
   ·have k0:=(K8.to (KS.q (X:=XN) O ly S8.lt)).to Hk.2
    exact((k0.fresh ly D 0 _).fresh ly D 1 _).fresh ly D 2 _
 all_goals
  obtain⟨ZP,-,-,-,-,b4,b5,b6,b7,b8,bf⟩:=S5.l.D;have IF:=bf 4;have J5:=bf 5;have Kd:=bf 6;have Kp:=bf 7;have JW:=bf 8;rw[<-fd.out] at b4;clear bf;go_wp2_with fail;go_loop [9] (λi=>∃j:Nat,j<=ms/\i=J I j) (λi=>ms - (intOf i).toNat);case atStart=>exact⟨0,by omega,rfl⟩
  case' round =>
  obtain⟨j,hj,rfl⟩:=hrel;by_cases hlt:j<ms
  ·obtain⟨y,hy⟩:∃y,making[j]?=T y:=⟨_,gq (by have:=fd.out;omega)⟩
   obtain⟨gs,cs,cus,ev,-⟩:=S5.rst.2.resolve_left (λh=>by have:=fd.out;omega);rw[<-fd.out] at ev;cases ev
   have dj:ZM.cell? (Q gs j Z)=T (U y):=uS S5.rst hy;have hjm:(j:Int)<(ms:Int):=by omega
   have Js:=ae (Ko j y hy);clear hy;have aq:=Js.out;go_wp2;exact⟨⟨j+1,by omega,by go_num⟩,by simp[intOf];omega⟩
  obtain rfl:j=ms:=by omega
 ·have hI60:¬ (60:Int)<=(j:Int):=by omega
  clear b5 b6 b7 b8 J5 Kd Kp JW;have A6:=ae ((BS ZM).alloc ly (N #[U nm] 9));have ZL:=ae (S5.aa A6 ly);have RS:=ae (by have h:=ZL.rst;rw[<-fd.out] at h;exact h);have Jd:z (B w0)<=(A ZM (N #[U nm] 9)).heap.size:=ZL.lt;obtain⟨q0,aa,ca,q1,-⟩:=(Ht.aa ZL.ak ly).2 tg n8;obtain⟨-,aa',ca',Jw,H7⟩:=Ht.2 tg n8;have Hw:=Ht.1;have e1:=(ZL.ak.cell (p:=(Q tb (Jz+tg*2+1) Z)) Hw).trans Jw;rw[q1] at e1;simp only[KJ,KK,PJ] at e1;obtain⟨rfl,rfl⟩:=e1;have J0:=ae H7;have Q1:=ae q1;clear q0 q1 Jw H7;have Is:Hid ((A ZM (N #[U nm] 9)).heap[z (B w)]?=T (N #[J I 0,U ⟨#[]⟩,Y Z 0 0] 37 (0,0))):=(A6.block _ (ah ph)).trans ph;have HG:Hid (∀M:E,(A ZM (N #[U nm] 9)).grownBy M (Value.slice JB j JD).ownBlock->M.heap[hb]?=(A ZM (N #[U nm] 9)).heap[hb]?/\M.heap[tb]?=(A ZM (N #[U nm] 9)).heap[tb]?):=λM hg=>by
   refine⟨hg.block hb (ah ZL.l) λe=>?_,hg.block tb (lj Hw Jd) λe=>?_⟩;{obtain⟨_,_,Ib,hc⟩:=af RS hb e.symm;exact absurd (ai ZL.l hc) (by decide)};{have:=(af RS tb e.symm).1;omega}
  have Kk:z (B w0)<=hb:=S5.hbB;have htbh:¬ tb=hb:=by omega
  have htbh':¬ hb=tb:=by omega
  have htI:(tg:Int)<(S.n1:Int):=by omega
  go_wp2_with (first
   |(at_builtin;refine bX _ rfl (.tmp 166) (.tmp 168) 35 rfl (z (B w0)) 9 i1 (U ⟨#[]⟩) 1 16 LL IU Ja IC Jb rfl (by decide) (Y JB j JD) j (bA making) (by simp[Act.eval]) RS.out (Q (z (B ZM)) 0 Z) 1 1 [U nm] (by simp[Act.eval]) rfl (oZ ZM _ _) (by simp[Value.oneCell']) (by unfold maxLen;omega) (by omega) Jd ?_;intro v7 w7 H r la;have O7:=ae H;have G7:=ae r;have Jn:=ae la;have Ir:=ae (HG w7 r);obtain⟨g7,c7,cu7,rfl,Ks⟩:=H.2.resolve_left (λh=>by omega);clear Ks H r la;obtain⟨IM,-,f1,-,-,f4,-,-,-,-,ff⟩:=(ShBox.ab ZL.l Ir.1).D;have JT:=ff 4;rw[Ke.out] at f1;have f9:=(cq (a:=(Q tb (Jz+tg*2+1) Z)) Ir.2).trans Q1.out;have J4:tb<z (B w7):=(lj (lj Hw Kk) (QM IM));clear ff)
   |fail)
  have SP:=ae (ZL.push (nm:=nm) (w':=w7) (v:=Y (T (Q g7 0 Z)) (j+1) c7) (by rw[<-fd.out];exact G7) (by rw[<-fd.out];exact O7) (by rw[<-fd.out];exact Jn));have S7:=ae SP.1;have K7:Hid (KS (z (B w0)) XN w (w7.setCell (Q hb 4 Z) (Y (T (Q g7 0 Z)) (j+1) c7))):=(K5.to (KS.q (X:=XN) A6 ly S5.lt)).to SP.2;have P:Hid ((w7.setCell (Q hb 4 Z) (Y (T (Q g7 0 Z)) (j+1) c7)).heap[z (B w)]?=T (N #[J I 0,U ⟨#[]⟩,Y Z 0 0] 37 (0,0))):=(SP.2.ab _ _ _ _ Is (by decide) (by decide) (by decide) λh=>h).trans Is;clear SP f1 f4 f9 JT IM J4 O7 G7 Jn Ir HG RS ZL A6 Is Q1 S5 K5 ph b4 IF ZP;generalize World.setCell w7 _ _=W7 at S7 K7 P ⊢;refine(Il W7 _ _ _ aa ca S7 J0).mono ?_;clear Il;rintro e w8 G8;rcases R with ⟨G,x⟩|c|d
  ·obtain⟨L1,md1,J6,st1,gx,cx,rfl,Hl,ro,Ia,JN,IJ,n6⟩:=G8;obtain⟨JE,Ij⟩:=Jj.out G x rfl;clear Jj;obtain⟨f,DQ⟩:∃f,f=x.1.M:=⟨_,rfl⟩
   obtain⟨ZQ,Ip⟩:∃ZQ,ZQ=x.1.H:=⟨_,rfl⟩
   obtain⟨ls,Ih⟩:∃ls,ls=x.2:=⟨_,rfl⟩
   obtain⟨ln,Hx⟩:∃ln,ln=ls.length:=⟨_,rfl⟩
   have IW:gR nm tg (.inl (G,x))=.inl ((G++[⟨nm,3,f,ZQ,tg,ls⟩]),⟨nm,3,f,ZQ,tg,ls⟩):=by rw[DQ,Ip,Ih];rfl
   have JL:=ae IW;rw[<-Ih,<-Hx] at Ia;rw[<-DQ,<-Ip,<-Ih,<-Hx];clear IW DQ Ip Ih;have JO:=ae Hx;clear Hx;obtain⟨m1,DE,Bk⟩:=IJ.nam n (fU nm) ex;replace Bk:m1.e=nm:=Bk;have Ki:Hid (m1.done=ZA):=by
    obtain⟨m2,Im,e2,e3⟩:=ro.mkg nm (ME _ (hU.2 rfl));obtain⟨i2,Ii⟩:=LZ Im;have e4:=xf ro.nod Ii DE (e2.trans Bk.symm);rw[e4,DE] at Ii;cases Ii
    exact e3
   have ex:=ae DE;obtain⟨ZN,hN⟩:∃ZN,ZN=L1.length:=⟨_,rfl⟩
   have bt:L1.length=ZN:=hN.symm;have hnN:n<ZN:=by rw[hN];exact(j5.1 DE).1
   obtain⟨g,Hi,cum,rfl,-⟩:=Hl.ag.2.resolve_left (λh=>by omega);obtain⟨gp,ZK,cup,rfl,Jy⟩:=Hl.rst.2.resolve_left (λh=>by rw[eL,AT] at h;omega);have hcp:j+1<=ZK:=by have:=Jy.2.2.1;rw[eL,AT,<-fd.out] at this;exact this
   rw[bt,eL,AT,<-fd.out] at Hl;have KW:=ae (K7.to n6);have ZS:Hid (w8.heap[z (B w)]?=T (N #[J I 0,U ⟨#[]⟩,Y Z 0 0] 37 (0,0))):=(n6.ab _ _ _ _ P (by decide) (by decide) (by decide) λh=>h).trans P;have IQ:z (B w)<=z (B W7):=K7.aa.size;have X8:=ae (((LExt.add (z (B w)) L (m:=fU nm) rfl).trans IJ IQ));have J9:Hid (z (B w)<=gx):=nL IQ (af Ia gx rfl).1;have JV:=ae (aF Ia (nL D IQ));have JJ:=ae ro;have hw8:z (B w)<=z (B w8):=KW.aa.size;have IY:=ae Hl;have I6:=ae Bk;have JF:=ae Ij;clear Hl ro Ia JN IJ n6 Bk DE Ij Jy S7 K7 P hN;have O:=ae ((BS w8).alloc ly (N #[J I f,U ZQ,Y Z 0 0] 37));have kb:Hid ((A w8 (N #[J I f,U ZQ,Y Z 0 0] 37)).heap[z (B w8)]?=T (N #[J I f,U ZQ,Y Z 0 0] 37 (0,0))):=gM _ _;have Ie:=ae (IY.aa O ly);have K9:=ae (KS.q (X:=XN) O ly IY.lt);have Id:Hid ((A w8 (N #[J I f,U ZQ,Y Z 0 0] 37)).heap[z (B w)]?=T (N #[J I 0,U ⟨#[]⟩,Y Z 0 0] 37 (0,0))):=(O.block _ (ah ZS)).trans ZS;go_upto_region 30 with fail;generalize World.alloc w8 _=W9 at O kb Ie K9 Id ⊢;obtain⟨s,Hf⟩:∃s,s=z (B w8):=⟨_,rfl⟩
   rw[<-Hf] at kb ⊢;have JR:z (B w)<=s:=by omega
   clear Hf O IY ZS;obtain⟨ZP,-,-,-,-,b4,-,-,-,b8,bf⟩:=Ie.l.D;have IF:=bf 4;clear bf;go_upto_region 32 with fail;have Kn:IntKind.i64.wrap (j:Int)=(j:Int):=GM (by omega) (by omega);have Km:(0:Int)<=(j:Int):=by omega
   have J7:(j:Int)<=(ZK:Int):=by omega
   refine aH (λV=>V.cell? (Q hb 4 Z)=T (Y (T (Q gp 0 Z)) (j+1) ZK)) 14 (by kernel_rfl) ?_;have HS:Hid (W9.drew.cell? (Q hb 4 Z)=T (Y (T (Q gp 0 Z)) (j+1) ZK)):=b4;iterate 10
    refine aK 0 (v:=?_) rfl rfl (by kernel_rfl) (λ_ _ _ h=>h) rfl ?_ HS ?_;rotate_left
    ·(intro wz s0;go_simp)
     (try with_reducible rfl)
    (try simp only[Act.put,nzL])
   refine fu (i:=10) (v:=J I (j:Int)) rfl (by kernel_rfl) (by kernel_rfl) (by kernel_rfl) (by kernel_rfl) (λ_ _ _ h=>h) rfl ?_ HS ?_;{intro wz s0;go_simp}
   (try simp only[Act.put,nzL])
   refine fu (i:=11) (v:=Y (T (Q gp 0 Z)) j ZK) rfl (by kernel_rfl) (by kernel_rfl) (by kernel_rfl) (by kernel_rfl) (λ_ _ _ h=>h) rfl ?_ HS ?_;{intro wz s0;go_simp}
   (try simp only[Act.put,nzL])
   iterate 2
    refine bU 12 rfl rfl (by kernel_rfl) λK hK=>?_;go_simp;refine hK _ _ (λ_=>HS) ?_;clear hK K
    (try simp only[Act.put,nzL])
   have PP:Hid (SI w0 hb (Y a0 S.n0 c0) (Y a1 S.n1 c1) (W9.setCell (Q hb 4 Z) (Y (T (Q gp 0 Z)) j ZK)) making G L1 (Y (T (Q g 0 Z)) ZN Hi) J6 (Y (T (Q gp 0 Z)) j ZK)/\KS (z (B w0)) XN W9 (W9.setCell (Q hb 4 Z) (Y (T (Q gp 0 Z)) j ZK))):=by have h:=Ie.out;rw[fd.out] at h ⊢;exact h.pop
   refine aj (i:=14) rfl (by kernel_rfl) λK hK=>?_;go_simp;refine hK _ _ (λh=>absurd rfl h) ?_;clear hK K HS b4 IF b8
   (try simp only[Act.put])
   refine be (by kernel_rfl) ?_ _;have D6:Hid (Below (W9.setCell (Q hb 4 Z) (Y (T (Q gp 0 Z)) j ZK)).heap.size (W9.setCell (Q hb 4 Z) (Y (T (Q gp 0 Z)) j ZK)) (W9.setCell (Q hb 4 Z) (Y (T (Q gp 0 Z)) j ZK)).drew):=br.drew;have ZL:=ae (PP.1.aa D6 ly);have K6:=ae ((K9.to PP.2).to (KS.q (X:=XN) D6 ly PP.1.lt));have n9:Hid ((W9.setCell (Q hb 4 Z) (Y (T (Q gp 0 Z)) j ZK)).drew.heap[z (B w)]?=T (N #[J I 0,U ⟨#[]⟩,Y Z 0 0] 37 (0,0))):=(PP.2.ab _ _ _ _ Id (by decide) (by decide) (by decide) λh=>h).trans Id;have I9:Hid ((W9.setCell (Q hb 4 Z) (Y (T (Q gp 0 Z)) j ZK)).drew.heap[s]?=T (N #[J I f,U ZQ,Y Z 0 0] 37 (0,0))):=(PP.2.ab _ _ _ _ kb (by decide) (by decide) (by decide) λh=>h).trans kb;clear PP D6 Ie K9 Id kb Kn Km J7 ZP;generalize World.drew (World.setCell W9 _ _)=ZT at ZL K6 n9 I9 ⊢;have kb:=ae I9.out;clear I9;go_upto_region 33 with fail;obtain⟨ZP,-,-,b2,-⟩:=ZL.l.D;obtain⟨rl,r0,r1,r2,-⟩:=bP kb;obtain⟨JP,JI,Ib,ur⟩:=af ZL.ag g rfl;have At:=ae ur;have R6:Hid (ZT.ownsRow (z (B w0)) 161 6 (Y (T (Q g 0 Z)) ZN Hi) ZN (L1.flatMap smV)):=by have h:=ZL.ag;rw[bt] at h;exact h
   have q1:ZT.cell? (Q g (n*6+1) Z)=T (J I m1.M):=cE (by rw[bt];exact R6) ex 1 (by omega) rfl;have q2:ZT.cell? (Q g (n*6+1+1) Z)=T (U m1.H):=cE (by rw[bt];exact R6) ex 2 (by omega) rfl;have q3:ZT.cell? (Q g (n*6+1+2) Z)=T (Y Z 0 0):=cE (by rw[bt];exact R6) ex 3 (by omega) rfl;have qf:∀j,ZT.frozen? (Q g j Z)=ZA:=λj=>by simp[World.frozen?,ur]
   have Je:=qf (n*6+1);have IA:=qf (n*6+1+1);have Iq:=qf (n*6+1+2);clear qf ur;have Kh:(n:Int)<(ZN:Int):=by omega
   have ld:g≠hb:=by intro e;have h:=At.out;rw[e] at h;exact absurd (ai h ZL.l) (by decide)
   have o:g≠s:=by intro e;have h:=At.out;rw[e] at h;exact absurd (ai h kb) (by decide)
   refine wp_region_held_drew (S:=λV=>V.cell? (Q hb 2 Z)=T (Y (T (Q g 0 Z)) ZN Hi)/\V.cell? (Q s 0 Z)=T (J I f)/\V.cell? (Q s 1 Z)=T (U ZQ)/\V.cell? (Q s 2 Z)=T (Y Z 0 0)) (by kernel_rfl) ⟨b2,r0,r1,r2⟩ λhS=>?_;have HS:=ae hS;clear hS;iterate 8
    first|refine ba 0 (v:=?_) rfl rfl (by kernel_rfl) (λ_ _ _ h=>h) rfl ?_ HS ?_|refine ba 4 (v:=?_) rfl rfl (by kernel_rfl) (λ_ _ _ h=>h) rfl ?_ HS ?_
    rotate_left
    ·(rintro wz ⟨s0,s1,s2,s3⟩;go_simp)
     (try with_reducible rfl)
    (try simp only[Act.put,nzL])
   have TL:=ae (ZL.told bt ex Ki f ZQ);have Hj:Hid ((((ZT.setCell (Q g (n*6+1) Z) (J I f)).setCell (Q g (n*6+1+1) Z) (U ZQ)).setCell (Q g (n*6+1+2) Z) (Y Z 0 0)).drew.cell? (Q hb 2 Z)=T (Y (T (Q g 0 Z)) ZN Hi)/\(((ZT.setCell (Q g (n*6+1) Z) (J I f)).setCell (Q g (n*6+1+1) Z) (U ZQ)).setCell (Q g (n*6+1+2) Z) (Y Z 0 0)).drew.cell? (Q s 0 Z)=T (J I f)/\(((ZT.setCell (Q g (n*6+1) Z) (J I f)).setCell (Q g (n*6+1+1) Z) (U ZQ)).setCell (Q g (n*6+1+2) Z) (Y Z 0 0)).drew.cell? (Q s 1 Z)=T (U ZQ)/\(((ZT.setCell (Q g (n*6+1) Z) (J I f)).setCell (Q g (n*6+1+1) Z) (U ZQ)).setCell (Q g (n*6+1+2) Z) (Y Z 0 0)).drew.cell? (Q s 2 Z)=T (Y Z 0 0)) :=
    ⟨(cell_far _ _ _ _ ld).trans ((cell_far _ _ _ _ ld).trans ((cell_far _ _ _ _ ld).trans b2)),(cell_far _ _ _ _ o).trans ((cell_far _ _ _ _ o).trans ((cell_far _ _ _ _ o).trans r0)),(cell_far _ _ _ _ o).trans ((cell_far _ _ _ _ o).trans ((cell_far _ _ _ _ o).trans r1)),(cell_far _ _ _ _ o).trans ((cell_far _ _ _ _ o).trans ((cell_far _ _ _ _ o).trans r2))⟩
   refine aN (i:=8) rfl (by kernel_rfl) λK hK=>?_;go_simp;refine hK _ _ Hj ?_;clear hK K HS q1 q2 q3 Je IA Iq b2 r0 r1 r2 rl
   (try simp only[Act.put])
   refine wpAnyH_done (by kernel_rfl) ?_ _;have D7:Hid (Below (((ZT.setCell (Q g (n*6+1) Z) (J I f)).setCell (Q g (n*6+1+1) Z) (U ZQ)).setCell (Q g (n*6+1+2) Z) (Y Z 0 0)).heap.size (((ZT.setCell (Q g (n*6+1) Z) (J I f)).setCell (Q g (n*6+1+1) Z) (U ZQ)).setCell (Q g (n*6+1+2) Z) (Y Z 0 0)) (((ZT.setCell (Q g (n*6+1) Z) (J I f)).setCell (Q g (n*6+1+1) Z) (U ZQ)).setCell (Q g (n*6+1+2) Z) (Y Z 0 0)).drew):=br.drew;have S7:=ae (TL.1.aa D7 ly);have K7:=ae (K6.to (TL.2.1.to (KS.q (X:=XN) D7 ly TL.1.lt)));have Hd:=TL.2.2.1;have Ho:=TL.2.2.2;have P:Hid ((((ZT.setCell (Q g (n*6+1) Z) (J I f)).setCell (Q g (n*6+1+1) Z) (U ZQ)).setCell (Q g (n*6+1+2) Z) (Y Z 0 0)).drew.heap[z (B w)]?=T (N #[J I 0,U ⟨#[]⟩,Y Z 0 0] 37 (0,0))):=by have ZI:=(TL.2.1.ab _ _ _ _ n9 (by decide) (by decide) (by decide) λh=>h).trans n9;exact ZI
   have n7:Hid ((((ZT.setCell (Q g (n*6+1) Z) (J I f)).setCell (Q g (n*6+1+1) Z) (U ZQ)).setCell (Q g (n*6+1+2) Z) (Y Z 0 0)).drew.heap[s]?=T (N #[J I f,U ZQ,Y Z 0 0] 37 (0,0))):=by have ZI:=(TL.2.1.ab _ _ _ _ kb (by decide) (by decide) (by decide) λh=>h).trans kb;exact ZI
   have Fm:=ae Hd;have Fd:=ae Ho;clear TL Hj Hd Ho n9 kb K6 ZL R6 At D7;generalize World.drew (World.setCell (World.setCell (World.setCell ZT _ _) _ _) _ _)=W7 at S7 K7 P n7 ⊢;have OS:=ae JV.out;obtain⟨ZP,-,-,b2,-⟩:=S7.l.D;obtain⟨H6,Ig,Jl,qr⟩:=af S7.ag g rfl;have q4:W7.cell? (Q g (n*6+4) Z)=T m1.sv:=cE (by have h:=S7.ag;rw[Fd.out] at h ⊢;exact h) Fm 4 (by omega) rfl;have Kg:W7.frozen? (Q g (n*6+4) Z)=ZA:=by simp[World.frozen?,qr]
   have TD:=ae (S7.upd' Fd Fm (j:=4) (by omega) (u:=Y (T (Q gx 0 Z)) ln cx) (m':=⟨m1.e,f,ZQ,ls,Y (T (Q gx 0 Z)) ln cx,ZA⟩) rfl (λh=>by cases h));have GS:Hid ((W7.setCell (Q g (n*6+4) Z) (Y (T (Q gx 0 Z)) ln cx)).heap[z (B w)]?=T (N #[J I 0,U ⟨#[]⟩,Y Z 0 0] 37 (0,0))):=(TD.2.1.ab _ _ _ _ P (by decide) (by decide) (by decide) λh=>h).trans P;have Hc:Hid ((W7.setCell (Q g (n*6+4) Z) (Y (T (Q gx 0 Z)) ln cx)).heap[s]?=T (N #[J I f,U ZQ,Y Z 0 0] 37 (0,0))):=(TD.2.1.ab _ _ _ _ n7 (by decide) (by decide) (by decide) λh=>h).trans n7;have DS:=ae TD.1;have Hz:=ae (K7.to TD.2.1);have IZ:=ae TD.2.2.1;have ID:=ae TD.2.2.2;clear qr;go_upto_region 35 with fail;clear b2 q4 Kg TD S7 K7 P n7 Fm Fd;generalize World.setCell W7 _ _=Hn at DS Hz GS Hc ⊢;have Kl:=ae (Gt OS Hz);obtain⟨ZP,-,-,b2,-⟩:=DS.l.D;obtain⟨H6,Ig,Jl,qr⟩:=af DS.ag g rfl;have q5:Hn.cell? (Q g (n*6+5) Z)=T (ZC ZA):=cE (by have h:=DS.ag;rw[ID.out] at h ⊢;exact h) IZ 5 (by omega) rfl;have IB:Hn.frozen? (Q g (n*6+5) Z)=ZA:=by simp[World.frozen?,qr]
   have TD:=ae (DS.upd' ID IZ (j:=5) (by omega) (u:=ZC ZD) (m':=⟨m1.e,f,ZQ,ls,Y (T (Q gx 0 Z)) ln cx,ZD⟩) rfl (λ_=>(by rw[<-JO.out];exact Kl)));have ZS:Hid ((Hn.setCell (Q g (n*6+5) Z) (ZC ZD)).heap[z (B w)]?=T (N #[J I 0,U ⟨#[]⟩,Y Z 0 0] 37 (0,0))):=(TD.2.1.ab _ _ _ _ GS (by decide) (by decide) (by decide) λh=>h).trans GS;have ZJ:Hid ((Hn.setCell (Q g (n*6+5) Z) (ZC ZD)).heap[s]?=T (N #[J I f,U ZQ,Y Z 0 0] 37 (0,0))):=(TD.2.1.ab _ _ _ _ Hc (by decide) (by decide) (by decide) λh=>h).trans Hc;have S8:=ae TD.1;have K8:=ae (Hz.to TD.2.1);clear qr;go_upto_region 36 with fail;clear b2 q5 IB TD DS Hz GS Hc;generalize World.setCell Hn _ _=ZO at S8 K8 ZS ZJ ⊢;obtain⟨ao,co,rfl⟩:=ju S8.ror;obtain⟨q,hq⟩:∃q,q=G.length:=⟨_,rfl⟩
   have HQ:=ae hq;rw[<-hq] at JE;clear hq;obtain⟨ZP,-,-,-,b3,-⟩:=S8.l.D;rw[<-HQ.out] at b3;have O:=ae ((BS ZO).alloc ly (N #[U nm] 9));have S9:=ae (S8.aa O ly);have RO:Hid ((A ZO (N #[U nm] 9)).ownsRow (z (B w0)) 9 1 (Y ao q co) q (bA (G.map (·.e)))):=by have h:=S9.ror;rw[<-HQ.out] at h;exact h
   have Hq:z (B w0)<=(A ZO (N #[U nm] 9)).heap.size:=S9.lt;have HG:Hid (∀M:E,(A ZO (N #[U nm] 9)).grownBy M (Value.slice ao q co).ownBlock->M.heap[hb]?=(A ZO (N #[U nm] 9)).heap[hb]?/\M.heap[z (B w)]?=(A ZO (N #[U nm] 9)).heap[z (B w)]?/\M.heap[s]?=(A ZO (N #[U nm] 9)).heap[s]?):=λM hg=>by
    have aq:∀(i:Nat) (cs:Array ZB) (t:ZH) (fz:Nat × Nat),(A ZO (N #[U nm] 9)).heap[i]?=T (Obj.cells cs t fz)->t≠9->M.heap[i]?=(A ZO (N #[U nm] 9)).heap[i]?:=λi cs t fz hi ht=>hg.block i (ah hi) λe=>by obtain⟨_,_,Ib,hc⟩:=af RO i e.symm;exact ht (ai hi hc)
    exact⟨aq _ _ _ _ S9.l (by decide),aq _ _ _ _ ((O.block _ (ah ZS)).trans ZS) (by decide),aq _ _ _ _ ((O.block _ (ah ZJ)).trans ZJ) (by decide)⟩
   have Hg:Hid ((A ZO (N #[U nm] 9)).heap[z (B w)]?=T (N #[J I 0,U ⟨#[]⟩,Y Z 0 0] 37 (0,0))):=(O.block _ (ah ZS)).trans ZS;have IE:Hid ((A ZO (N #[U nm] 9)).heap[s]?=T (N #[J I f,U ZQ,Y Z 0 0] 37 (0,0))):=(O.block _ (ah ZJ)).trans ZJ;have hbw:¬ hb=z (B w):=λe=>by have h:=S8.l;unfold ShBox at h;rw[e] at h;exact absurd (ai h ZS) (by decide)
   have th:¬ (z (B w))=hb:=λe=>hbw e.symm;have Io:¬ hb=s:=λe=>by have h:=S8.l;unfold ShBox at h;rw[e] at h;exact absurd (ai h ZJ) (by decide)
   have JG:¬ s=hb:=λe=>Io e.symm
   go_wp2_with (first
    |(at_builtin;refine bX _ rfl (.tmp 235) (.tmp 237) 35 rfl (z (B w0)) 9 i1 (U ⟨#[]⟩) 1 16 LL IU Ja IC Jb rfl (by decide) (Y ao q co) q (bA (G.map (·.e))) (by simp[Act.eval]) RO.out (Q (z (B ZO)) 0 Z) 1 1 [U nm] (by simp[Act.eval]) rfl (oZ ZO _ _) (by simp[Value.oneCell']) (by unfold maxLen;omega) (by omega) Hq ?_;intro v9 w9 H r la;have O9:=ae H;have G9:=ae r;have Ik:=ae la;have mv:=ae (HG w9 r);obtain⟨g9,c9,JZ,rfl,Iw⟩:=H.2.resolve_left (λh=>by omega);clear Iw H r la;obtain⟨JK,-,-,-,f3,-,-,-,-,-,ff⟩:=(ShBox.ab S9.l mv.1).D;have JU:=ff 3;obtain⟨rl,r0,r1,r2,rf⟩:=bP (mv.2.1.trans Hg);have IK:=rf 0;have Iz:=rf 1;have IL:=rf 2;obtain⟨pl,p0,p1,p2,pf⟩:=bP (mv.2.2.trans IE);clear ff rf pf)
    |fail)
   have Hk:=ae (S9.ord (x:=⟨nm,3,f,ZQ,tg,ls⟩) (w':=w9) (v:=Y (T (Q g9 0 Z)) (q+1) c9) (by rw[<-HQ.out];exact G9) (by rw[<-HQ.out];exact O9) (by rw[<-HQ.out];exact Ik));refine bp (v:=ZG #[J I f,U ZQ,Y Z 0 0]) (by simp[results,PE,go_sem,r0,r1,r2]) rfl ?_;have Hm:=(qh w9 (Q hb 3 Z) (Y (T (Q g9 0 Z)) (q+1) c9) (z (B w)) th).trans (mv.2.1.trans Hg);rw[JL.out];refine⟨L1.set n ⟨m1.e,f,ZQ,ls,Y (T (Q gx 0 Z)) ln cx,ZD⟩,Y (T (Q g 0 Z)) ZN Hi,Y (T (Q g9 0 Z)) (q+1) c9,Y (T (Q gp 0 Z)) j ZK,rfl,?_,xg JJ ex I6 I6 rfl rfl rfl rfl rfl JF HI,X8.set ex rfl (λk e=>by cases e;exact J9),?_⟩;{have x0:=Hk.1;rw[SV,SV] at x0;replace x0:=x0.ad Hm ⟨by decide,by decide,by decide,by decide⟩ D 0 (J I f);have y0:=aw Hm (j:=0) (J I f);have x1:=x0.ad y0 ⟨by decide,by decide,by decide,by decide⟩ D 1 (U ZQ);exact x1.ad (aw y0 (j:=1) (U ZQ)) ⟨by decide,by decide,by decide,by decide⟩ D 2 (Y Z 0 0)};{have k0:=((KW.to K8).to (KS.q (X:=XN) O ly S8.lt)).to Hk.2;exact((k0.fresh ly D 0 _).fresh ly D 1 _).fresh ly D 2 _}
  focus
   obtain⟨a,k,sv,rfl,⟨s0,s1,JY,JS,Kt,Hb,Ha⟩,n6⟩:=G8
  rotate_left;focus
   obtain⟨sv,rfl,⟨s0,s1,JY,JS,Kt,Hb,Ha⟩,n6⟩:=G8
  all_goals
   unfold iE;first|unfold iR|unfold iS
   dsimp only;go_upto_region 30 with fail;generalize hW:World.alloc w8 _=W9;obtain⟨O,-,-⟩:=nb1 hW;have K8:=ae ((K7.to n6).to (KS.q (X:=XN) O ly (nL D (K7.to n6).aa.size)));have I8:=ae (ShBox.ab Hb (O.block _ (ah Hb)));have Jm:=ae (own_below Ha O ly);have ZS:Hid (W9.heap[z (B w)]?=T (N #[J I 0,U ⟨#[]⟩,Y Z 0 0] 37 (0,0))):=by have ZI:=(n6.ab _ _ _ _ P (by decide) (by decide) (by decide) λh=>h).trans P;exact(O.block _ (ah ZI)).trans ZI
   clear n6 Hb Ha O hW;obtain⟨ZP,-,-,-,-,-,b5,b6,b7,b8,-⟩:=I8.D;have hbw:¬ hb=z (B w):=λe=>by have h:=I8.out;unfold ShBox at h;rw[e] at h;exact absurd (ai h ZS) (by decide)
   have th:¬ (z (B w))=hb:=λe=>hbw e.symm;obtain⟨rl,r0,r1,r2,rf⟩:=bP ZS;have IK:=rf 0;have Iz:=rf 1;have IL:=rf 2;clear rf;first|simp only[iR] at b5 b6 b7|simp only[iS] at b5 b6 b7
   go_wp2_with fail;have I5:=Gs Jm.out ZS.out (by decide);first|refine bp (v:=ZG #[J I 6,U ⟨#[]⟩,Y a c.length k]) (by simp[results,PE,go_sem,r0,r1,r2]) rfl ⟨a,k,rfl,?_⟩|refine bp (v:=ZG #[J I 7,U d,Y Z 0 0]) (by simp[results,PE,go_sem,r0,r1,r2]) rfl ⟨rfl,?_⟩
   refine⟨⟨_,_,_,_,_,(qh _ _ _ _ hbw).trans ((qh _ _ _ _ hbw).trans ((qh _ _ _ _ hbw).trans I8)),?_⟩,?_⟩
   ·exact aA (aA (aA Jm I5 _ _) I5 _ _) I5 _ _
   ·exact((K8.fresh ly D 0 _).fresh ly D 1 _).fresh ly D 2 _
 ·have Jg:j=60:=Hp;subst Jg;have hbw:¬ hb=z (B w):=λe=>by have h:=S5.l;unfold ShBox at h;rw[e] at h;exact absurd (ai h ph) (by decide)
  have th:¬ (z (B w))=hb:=λe=>hbw e.symm;obtain⟨rl,r0,r1,r2,rf⟩:=bP ph;have IK:=rf 0;have Iz:=rf 1;have IL:=rf 2;clear rf;go_wp2_with fail;refine bp (v:=ZG #[J I 7,U nm,Y Z 0 0]) (by simp[results,PE,go_sem,r0,r1,r2]) rfl ?_;have JC:=aw S5.l (j:=8) (ZC ZD);have Ji:=aw JC (j:=5) (J I 7);have Jo:=aw Ji (j:=6) (U nm);have J8:=aw Jo (j:=7) (Y Z 0 0);have Hy:z (B w0)<=hb:=S5.hbB;have k8:=(((K5.to (KS.setCell (X:=XN) _ Hy (.inr λcs t fz hc=>.inr (.inr (ai hc S5.l))) (ZC ZD) (j:=8))).to (KS.setCell (X:=XN) _ Hy (.inr λcs t fz hc=>.inr (.inr (ai hc JC))) (J I 7) (j:=5))).to (KS.setCell (X:=XN) _ Hy (.inr λcs t fz hc=>.inr (.inr (ai hc Ji))) (U nm) (j:=6))).to (KS.setCell (X:=XN) _ Hy (.inr λcs t fz hc=>.inr (.inr (ai hc Jo))) (Y Z 0 0) (j:=7));refine⟨rfl,⟨_,_,_,_,_,(qh _ _ _ _ hbw).trans ((qh _ _ _ _ hbw).trans ((qh _ _ _ _ hbw).trans J8)),⟨rfl,.inl ⟨rfl,rfl⟩⟩⟩,?_⟩;exact((k8.fresh ly D 0 _).fresh ly D 1 _).fresh ly D 2 _
end
section
variable {w0:E}{S:Spc}{a0 a1:Option Addr}{c0 c1 hb:Nat}
theorem uT{L:List SM}{making:List ByteArray}{made:List Ent}(h:fq L making made)(f:∀m∈L,m.e≠nm)(s:aO made nm=Z)(h1:atL making nm=Z)(g:m'.e=nm)(r:m'.done=ZD)(l:x.e=nm)(p:m'.M=(dk x).M)(o:m'.H=(dk x).H)(i:m'.V=x.looks)(q:m'.sv=Y Z 0 0)(n:Nat):fq ((L++[fU nm]).set L.length m') making (made++[x])/\LExt n L ((L++[fU nm]).set L.length m'):=by
 have b:(L++[fU nm])[L.length]?=T (fU nm):=by rw[KL ly,SU];rfl
 refine⟨xg (rX h f (m:=fU nm) rfl rfl) b rfl g l r p o i (dx s) h1,(LExt.add n L (m:=fU nm) rfl).set b g λj e=>?_⟩;rw[q] at e;cases e
theorem DX (C:oU w0 S a0 a1):∀n,mS w0 S hb (Y a0 S.n0 c0) (Y a1 S.n1 c1) n:=by
 have u:∀n,(∀m,n=m+1->mS w0 S hb (Y a0 S.n0 c0) (Y a1 S.n1 c1) m)->mS w0 S hb (Y a0 S.n0 c0) (Y a1 S.n1 c1) n:=by
  intro n ZT making made L md or st w nm ZR h hrel H f s hn;have hmade:made.length<=50000:=by unfold eQ at f;omega
  have b:L.length<=100000:=by have:=hrel.len;omega
  rw[lA];unfold du;cases h0:aO made nm with
  |some e =>obtain⟨k,m,f1,ZQ,D,ZS,ZP⟩:=FJ hrel h0;refine(DV w nm h b k m f1 ZQ D).mono ?_;rintro r w' ⟨rfl,l,j⟩;exact⟨L,md,or,st,by rw[ZS,ZP],l,hrel,LExt.refl _ _,j⟩
  |none =>
   cases h1:atL making nm with
   |some i =>
    obtain⟨k,m,f1,ZQ,D,ZS⟩:=FK hrel h1;have G:=s nm ZS;cases h2:atI (nm1 S.f1) S.n1 nm with
    |none=>rw[h2] at G;cases G
    |some tg=>exact vY C w nm h b (by omega) k m f1 ZQ D tg i h2 h1
   |none =>
    obtain⟨q,y⟩:=AG hrel h0 h1;dsimp only;unfold fj;cases h2:atI (nm0 S.f0) S.n0 nm with
    |some i =>refine(lP.1 C w nm h b (by omega) q (nW C.ok h2) 0 (S.f0 i).H (.inr ⟨i,h2,rfl,rfl⟩) 1 (S.f0 i).H).mono ?_;rintro r w' ⟨o,p,rfl,l,j⟩;have g:=uT hrel y h0 h1 (m':=⟨nm,0,(S.f0 i).H,[],Y Z 0 0,ZD⟩) (x:=⟨nm,1,0,(S.f0 i).H,0,[]⟩) rfl rfl rfl rfl rfl rfl rfl (z (B w));exact⟨_,o,p,st,rfl,l,g.1,g.2,j⟩
    |none =>
     cases h3:atI (nm1 S.f1) S.n1 nm with
     |some t =>
      cases n with
      |zero=>exact lP.2 C w nm h b q h1 t h3 _ (.inl ⟨by omega,rfl⟩)
      |succ m=>exact lP.2 C w nm h b q h1 t h3 _ (.inr ⟨m,ZR,ZT m rfl,hrel,H,f,s,h0,rfl⟩)
     |none =>refine(lP.1 C w nm h b (by omega) q h3 4 nm (.inl ⟨h2,rfl,rfl⟩) 2 ⟨#[]⟩).mono ?_;rintro r w' ⟨o,p,rfl,l,j⟩;have g:=uT hrel y h0 h1 (m':=⟨nm,4,nm,[],Y Z 0 0,ZD⟩) (x:=⟨nm,2,0,⟨#[]⟩,0,[]⟩) rfl rfl rfl rfl rfl rfl rfl (z (B w));exact⟨_,o,p,st,rfl,l,g.1,g.2,j⟩
 intro n;induction n with
 |zero=>exact u 0 λm e=>by omega
 |succ n ZO=>exact u (n+1) λm e=>by cases e;exact ZO
end
