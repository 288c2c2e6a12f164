import Derived.Test.YtpmnbjkjpnclaaaGreatDoorPD
import Derived.WalkSmall
set_option maxRecDepth 1000000
set_option maxHeartbeats 16000000
set_option linter.unusedSimpArgs false
open Go renaming Addr.mk->Q,Value.slice->Z,Value.string->U,Value.int->N,Value.bool->ZD,Value.agg->ZH,Obj.cells->J,IntKind.i64->I,World->M,Value->ZC,TypeId->ZI,Ending.returned->ZF,World.alloc->A,Proofs.Tryz.prog->Pg
open Option renaming none->Y,some->T
open Bool renaming false->ZA,true->ZG
namespace Go.Proofs.YtpmnbjkjpnclaaaGreatDoor.Vp
open Tryz RowKit
variable {m c m':SM}{w:M}{n g cap b j i size B ZO:Nat}{nm:ByteArray}{L:List SM}{e:ZI}{x:Ent}{u:ZC}
theorem vO:∀(L:List SM) (k j:Nat) (m b:SM) (u:ZC),L[k]?=T m->j<6->smV b=(smV m).set j u->(L.flatMap smV).set (k*6+j) u=(L.set k b).flatMap smV
 |[],k,j,m,b,u,h,_,_=>by simp at h
 |a::L,0,j,m,b,u,h,hj,he=>by simp only[List.getElem?_cons_zero,OU] at h;subst h;simp only[KK,List.set_cons_zero,WQ,FM];rw[WF _ _ (by rw[nZ];exact hj),he]
 |a::L,k+1,j,m,b,u,h,hj,he=>by simp only[U7] at h;simp only[KK,U0];rw[SN _ _ (by rw[nZ];omega),nZ,show(k+1)*6+j - 6=k*6+j by omega,vO L k j m b u h hj he]
theorem Aq{i:List ZC}(h:w.ownsRow b e size (Z (T (Q g 0 Y)) n cap) n i)(u:ZC):(w.setCell (Q g j Y) u).ownsRow b e size (Z (T (Q g 0 Y)) n cap) n (i.set j u):=by
 refine⟨by rw[LB];exact h.1,?_⟩;rcases h.2 with ⟨c,h0⟩|⟨g',cap',f,c,hb,l,h1,h2,h3,h4⟩
 {simp at c};{simp only[OJ,OU,TX] at c;obtain⟨⟨rfl,-⟩,-,rfl⟩:=c;refine .inr ⟨g,cap,f.setIfInBounds j u,rfl,hb,ay l u,h1,h2,by simpa using h3,?_⟩;rw[QY,VZ,h4]}
section
variable {w0 w w':M}{hb:Nat}{s0 s1 md or st:ZC}{making:List ByteArray}{made:List Ent}{L:List SM}
theorem SI.upd{k:Nat}(h:SI w0 hb s0 s1 w making made L (Z (T (Q g 0 Y)) L.length cap) or st)(D:L[k]?=T m)(C:j<6)(E:smV c=(smV m).set j u)(G:c.done=ZG->w.ownsRow w0.heap.size 201 3 c.sv c.c.length (eG c.c)):SI w0 hb s0 s1 (w.setCell (Q g (k*6+j) Y) u) making made (L.set k c) (Z (T (Q g 0 Y)) (L.set k c).length cap) or st/\KS w0.heap.size XN w (w.setCell (Q g (k*6+j) Y) u):=by
 obtain⟨i,hgl,cs,l⟩:=aj h.W g rfl
 have b:∀{size n:Nat} {p:ZI} {q:ZC} {ZS:List ZC},w.ownsRow w0.heap.size p size q n ZS->198≠p->(w.setCell (Q g (k*6+j) Y) u).ownsRow w0.heap.size p size q n ZS:=λB y=>aA B (λe=>by
  obtain⟨_,_,r,f⟩:=aj B g e
  exact y (ar l f)) _ _
 have z:(L.set k c).length=L.length:=LB;refine⟨⟨h.aq.setCell i u,h.hbB,?_,?_,b h.ror (by decide),b h.rst (by decide),h.apart,λx o s=>?_⟩,KS.setCell w i (.inr λr t fz f=>.inr (.inl (ar f l))) u⟩
 ·rw[z]
  exact h.ab.ad (qh _ _ _ _ λe=>by
   have F:hb=g:=e
   exact absurd (ar h.ab (F ▸ l)) (by decide))
 {rw[z,<-vO L k j m c u D C E];exact Aq h.W u};{rcases PI o with o|rfl;{exact b (h.c x o s) (by decide)};{exact b (G s) (by decide)}}
theorem SI.addL{v:ZC}(h:SI w0 hb s0 s1 w making made L md or st)(E:w.grownBy w' md.ownBlock)(G:w'.ownsRow w0.heap.size 198 6 v (L.length+1) (L.flatMap smV++smV m))(K:m.done=ZA):SI w0 hb s0 s1 (w'.setCell (Q hb 2 Y) v) making made (L++[m]) v or st/\KS w0.heap.size XN w (w'.setCell (Q hb 2 Y) v):=by
 have y:=aj h.W;have H:KS w0.heap.size XN w w':=KS.of_grown E h.lt λj ZQ=>by obtain⟨h1,_,g,h2⟩:=y j ZQ;exact⟨h1,.inr λg t fz r=>.inr (.inl (ar r h2))⟩
 have l:∀(i:Nat) (g:Array ZC) (t:ZI) (fz:Nat × Nat),w.heap[i]?=T (Obj.cells g t fz)->t≠198->w'.heap[i]?=w.heap[i]?:=λi g t fz hi ZP=>E.block i (ai hi) λe=>by obtain⟨_,_,z,h2⟩:=y i e.symm;exact ZP (ar hi h2)
 have b:ShBox w' hb s0 s1 md or st 0 ⟨#[]⟩ (Z Y 0 0) ZA:=h.ab.ad (l _ _ _ _ h.ab (by decide));have c:∀{size n:Nat} {s:ZI} {F:ZC} {D:List ZC},w.ownsRow w0.heap.size s size F n D->s≠198->117≠s->(w'.setCell (Q hb 2 Y) v).ownsRow w0.heap.size s size F n D:=λu C B=>by
  have h3:=dw (w':=w') u λk f=>by obtain⟨_,_,g,r⟩:=aj u k f;exact l _ _ _ _ r C
  exact aA h3 (λe=>by
   obtain⟨_,_,z,o⟩:=aj h3 hb e
   exact B (ar b o)) _ _
 have ZS:(w'.setCell (Q hb 2 Y) v).ownsRow w0.heap.size 198 6 v (L.length+1) (L.flatMap smV++smV m):=aA G (λe=>by
  obtain⟨_,_,z,o⟩:=aj G hb e
  exact absurd (ar b o) (by decide)) _ _
 have f:KS w0.heap.size XN w' (w'.setCell (Q hb 2 Y) v):=KS.setCell w' h.hbB (.inr λg t fz r=>.inr (.inr (ar r b))) v;refine⟨⟨h.aq.trans (H.to f).aa,h.hbB,ay b v,(by rw[cM,DW,BO,List.flatMap_singleton];exact ZS),c h.ror (by decide) (by decide),c h.rst (by decide) (by decide),h.apart,λx q p=>?_⟩,H.to f⟩;rcases p8.1 q with q|q;{exact c (h.c x q p) (by decide) (by decide)};{rw[nD.1 q,K] at p;cases p}
theorem SI.ord{v:ZC}(h:SI w0 hb s0 s1 w making made L md or st)(y:w.grownBy w' or.ownBlock)(D:w'.ownsRow w0.heap.size 9 1 v (made.length+1) (bW (made.map (·.e))++[U x.e]))(G:v.ownBlock=or.ownBlock∨v.ownBlock=T w.heap.size):SI w0 hb s0 s1 (w'.setCell (Q hb 3 Y) v) making (made++[x]) L md v st/\KS w0.heap.size XN w (w'.setCell (Q hb 3 Y) v):=by
 have u:=aj h.ror;have H:KS w0.heap.size XN w w':=KS.of_grown y h.lt λj ZP=>by obtain⟨h1,_,g,h2⟩:=u j ZP;exact⟨h1,.inr λg t fz l=>.inl (ar l h2)⟩
 have o:∀(i:Nat) (g:Array ZC) (t:ZI) (fz:Nat × Nat),w.heap[i]?=T (Obj.cells g t fz)->t≠9->w'.heap[i]?=w.heap[i]?:=λi g t fz hi ZQ=>y.block i (ai hi) λe=>by obtain⟨_,_,q,h2⟩:=u i e.symm;exact ZQ (ar hi h2)
 have c:ShBox w' hb s0 s1 md or st 0 ⟨#[]⟩ (Z Y 0 0) ZA:=h.ab.ad (o _ _ _ _ h.ab (by decide));have p:∀{size n:Nat} {r:ZI} {E:ZC} {C:List ZC},w.ownsRow w0.heap.size r size E n C->r≠9->117≠r->(w'.setCell (Q hb 3 Y) v).ownsRow w0.heap.size r size E n C:=λs B ZS=>by
  have h3:=dw (w':=w') s λk b=>by obtain⟨_,_,g,l⟩:=aj s k b;exact o _ _ _ _ l B
  exact aA h3 (λe=>by
   obtain⟨_,_,q,f⟩:=aj h3 hb e
   exact ZS (ar c f)) _ _
 have z:(w'.setCell (Q hb 3 Y) v).ownsRow w0.heap.size 9 1 v (made.length+1) (bW (made.map (·.e))++[U x.e]):=aA D (λe=>by
  obtain⟨_,_,q,f⟩:=aj D hb e
  exact absurd (ar c f) (by decide)) _ _
 have b:KS w0.heap.size XN w' (w'.setCell (Q hb 3 Y) v):=KS.setCell w' h.hbB (.inr λg t fz l=>.inr (.inr (ar l c))) v;refine⟨⟨h.aq.trans (H.to b).aa,h.hbB,ay c v,p h.W (by decide) (by decide),(by rw[cM,DW];simpa[bW] using z),?_,λk m=>?_,λx K F=>p (h.c x K F) (by decide) (by decide)⟩,H.to b⟩
 ·have h3:w'.ownsRow w0.heap.size 9 1 st making.length (bW making):=dw h.rst λk b=>by
   obtain⟨_,ZR,g,l⟩:=aj h.rst k b;exact y.block k ZR λe=>h.apart k e.symm b
  exact aA h3 (λe=>by
   obtain⟨_,_,q,f⟩:=aj h3 hb e
   exact absurd (ar c f) (by decide)) _ _
 ·intro e;rcases G with a|a;{exact h.apart k (by rw[<-a];exact m) e}
  ·rw[a] at m;cases m
   have:=(aj h.rst _ e).2.1;omega
theorem SI.push{v:ZC}(h:SI w0 hb s0 s1 w making made L md or st)(y:w.grownBy w' st.ownBlock)(D:w'.ownsRow w0.heap.size 9 1 v (making.length+1) (bW making++[U nm]))(G:v.ownBlock=st.ownBlock∨v.ownBlock=T w.heap.size):SI w0 hb s0 s1 (w'.setCell (Q hb 4 Y) v) (making++[nm]) made L md or v/\KS w0.heap.size XN w (w'.setCell (Q hb 4 Y) v):=by
 have u:=aj h.rst;have H:KS w0.heap.size XN w w':=KS.of_grown y h.lt λj ZP=>by obtain⟨h1,_,g,h2⟩:=u j ZP;exact⟨h1,.inr λg t fz l=>.inl (ar l h2)⟩
 have m:∀(i:Nat) (g:Array ZC) (t:ZI) (fz:Nat × Nat),w.heap[i]?=T (Obj.cells g t fz)->t≠9->w'.heap[i]?=w.heap[i]?:=λi g t fz hi ZQ=>y.block i (ai hi) λe=>by obtain⟨_,_,p,h2⟩:=u i e.symm;exact ZQ (ar hi h2)
 have c:ShBox w' hb s0 s1 md or st 0 ⟨#[]⟩ (Z Y 0 0) ZA:=h.ab.ad (m _ _ _ _ h.ab (by decide));have o:∀{size n:Nat} {q:ZI} {E:ZC} {C:List ZC},w.ownsRow w0.heap.size q size E n C->q≠9->117≠q->(w'.setCell (Q hb 4 Y) v).ownsRow w0.heap.size q size E n C:=λs B ZS=>by
  have h3:=dw (w':=w') s λk b=>by obtain⟨_,_,g,l⟩:=aj s k b;exact m _ _ _ _ l B
  exact aA h3 (λe=>by
   obtain⟨_,_,p,f⟩:=aj h3 hb e
   exact ZS (ar c f)) _ _
 have z:(w'.setCell (Q hb 4 Y) v).ownsRow w0.heap.size 9 1 v (making.length+1) (bW making++[U nm]):=aA D (λe=>by
  obtain⟨_,_,p,f⟩:=aj D hb e
  exact absurd (ar c f) (by decide)) _ _
 have b:KS w0.heap.size XN w' (w'.setCell (Q hb 4 Y) v):=KS.setCell w' h.hbB (.inr λg t fz l=>.inr (.inr (ar l c))) v;refine⟨⟨h.aq.trans (H.to b).aa,h.hbB,ay c v,o h.W (by decide) (by decide),?_,(by rw[cM,DW];simpa[bW] using z),λk r=>?_,λx K F=>o (h.c x K F) (by decide) (by decide)⟩,H.to b⟩
 ·have h3:w'.ownsRow w0.heap.size 9 1 or made.length (bW (made.map (·.e))):=dw h.ror λk b=>by
   obtain⟨_,ZR,g,l⟩:=aj h.ror k b;exact y.block k ZR λe=>h.apart k b e.symm
  exact aA h3 (λe=>by
   obtain⟨_,_,p,f⟩:=aj h3 hb e
   exact absurd (ar c f) (by decide)) _ _
 ·intro e;rcases G with a|a;{exact h.apart k r (by rw[<-a];exact e)}
  ·rw[a] at e;cases e
   have:=(aj h.ror _ r).2.1;omega
theorem SI.pop (h:SI w0 hb s0 s1 w (making++[nm]) made L md or (Z (T (Q g 0 Y)) (making.length+1) cap)):SI w0 hb s0 s1 (w.setCell (Q hb 4 Y) (Z (T (Q g 0 Y)) making.length cap)) making made L md or (Z (T (Q g 0 Y)) making.length cap)/\KS w0.heap.size XN w (w.setCell (Q hb 4 Y) (Z (T (Q g 0 Y)) making.length cap)):=by
 have b:∀{size n:Nat} {f:ZI} {i:ZC} {l:List ZC},w.ownsRow w0.heap.size f size i n l->117≠f->(w.setCell (Q hb 4 Y) (Z (T (Q g 0 Y)) making.length cap)).ownsRow w0.heap.size f size i n l:=λc j=>aA c (λe=>by
  obtain⟨_,_,cs2,m⟩:=aj c hb e
  exact j (ar h.ab m)) _ _
 have hst:=h.rst;rw[cM,DW] at hst;refine⟨⟨h.aq.setCell h.hbB _,h.hbB,ay h.ab _,b h.W (by decide),b h.ror (by decide),b (ownsRow_pop (last:=[U nm]) (by simp[bW]) (by simpa[bW] using hst)) (by decide),h.apart,λx p o=>b (h.c x p o) (by decide)⟩,KS.setCell w h.hbB (.inr λcs t fz q=>.inr (.inr (ar q h.ab))) _⟩
end
theorem yF (h:L.Pairwise λm b=>m.e≠b.e){b:SM}(hi:L[i]?=T m)(q:L[j]?=T b)(e:m.e=b.e):i=j:=by
 rw[PV] at h;obtain⟨f,c⟩:=n8.1 hi;obtain⟨l,g⟩:=n8.1 q;rcases Nat.lt_trichotomy i j with o|p|n;{exact absurd (by rw[c,g];exact e) (h i j f l o)};{exact p};{exact absurd (by rw[c,g];exact e.symm) (h j i l f n)}
theorem rO (hn:L.Pairwise λm g=>m.e≠g.e)(i:m∈L)(e:m.e=nm):∃k,fI L nm=T k/\L[k]?=T m:=by
 obtain⟨k,b⟩:=RK i;refine⟨k,vJ b (by rw[e];simp) λj f hj c=>?_,b⟩;cases h:(f.e.toList == nm.toList) with
 |false=>rfl
 |true =>have:=yF hn c b (by rw[bytes_beq h,e]);omega
section
variable {L:List SM}{making:List ByteArray}{made:List Ent}{nm:ByteArray}
theorem IJ (h:fH L making made){e:Ent}(f:cL made nm=T e):∃k m,fI L nm=T k/\L[k]?=T m/\m.done=ZG/\m.E=(dS e).E/\m.B=(dS e).B:=by obtain⟨h1,h2⟩:=qC f;obtain⟨m,j,n,g,b,l,_⟩:=h.got e h1;obtain⟨k,c,i⟩:=rO h.nod j (n.trans h2);exact⟨k,m,c,i,g,b,l⟩
theorem IK (h:fH L making made)(hi:atL making nm=T i):∃k m,fI L nm=T k/\L[k]?=T m/\m.done=ZA/\nm∈making:=by
 have c:=hi;unfold atL at c;obtain⟨f,h1,_⟩:=SU.1 c;have b:nm∈making:=by rw[<-bytes_beq h1];exact gz f
 obtain⟨m,n,o,j⟩:=h.mkg nm b;obtain⟨k,g,l⟩:=rO h.nod n o;exact⟨k,m,g,l,j,b⟩
theorem Dp (h:fH L making made)(f:cL made nm=Y)(h1:atL making nm=Y):fI L nm=Y/\∀m∈L,m.e≠nm:=by
 have b:∀m∈L,m.e≠nm:=λm c e=>by
  rcases h.all m c with ⟨x,g,i⟩|h2;{exact iq f x g (i.trans e)};{exact j4 h1 _ h2 e}
 refine⟨yD λj m hj c=>?_,b⟩;cases h2:(m.e.toList == nm.toList) with
 |false=>rfl
 |true=>exact absurd (bytes_beq h2) (b m (LD c))
theorem sZ (h:fH L making made)(i:∀m∈L,m.e≠nm)(g:m.e=nm)(j:m.done=ZA):fH (L++[m]) (making++[nm]) made:=by
 refine⟨?_,by simp[h.len];omega,λx l=>?_,λt f=>?_,λy c=>?_⟩;{rw[PM];exact⟨h.nod,U8 _ _,λa n b hb=>by rw[nD.1 hb,g];exact i a n⟩};{obtain⟨y,c,r⟩:=h.got x l;exact⟨y,QJ _ c,r⟩};{rcases p8.1 f with f|f;{obtain⟨y,c,r⟩:=h.mkg t f;exact⟨y,QJ _ c,r⟩};{exact⟨m,RH _ (nD.2 rfl),by rw[g,nD.1 f],j⟩}};{rcases p8.1 c with c|c;{exact(h.all y c).imp id λh=>QJ _ h};{rw[nD.1 c,g];exact .inr (RH _ (nD.2 rfl))}}
theorem yG{f:List Ent}{k:Nat}{b:SM}(h:fH L (making++[nm]) f)(ZS:L[k]?=T m)(E:m.e=nm)(g:b.e=nm)(s:x.e=nm)(ZO:b.done=ZG)(ZR:b.E=(dS x).E)(K:b.B=(dS x).B)(ZP:b.c=x.looks)(ZQ:∀y∈f,y.e≠nm)(h1:atL making nm=Y):fH (L.set k b) making (f++[x]):=by
 have B:=(n8.1 ZS).1;have C:=(n8.1 ZS).2;have n:∀y∈L,y.e≠nm->y∈L.set k b:=λy c H=>by
  obtain⟨i,hi⟩:=RK c;refine LD (i:=i) ?_;rw[QU λe=>?_];{exact hi}
  ·subst e;rw[ZS] at hi;cases hi
   exact H E
 have u:b∈L.set k b:=LD (P7 B);refine⟨?_,by rw[LB,h.len];simp;omega,λy c=>?_,λt p=>?_,λy c=>?_⟩;{have o:=h.nod;rw[PV] at o ⊢;have q:∀(i:Nat) (hi:i<(L.set k b).length),(L.set k b)[i].e=(L[i]'(by simpa using hi)).e:=λi hi=>(by rw[List.getElem_set];split;{rename_i e;subst e;rw[C,E,g]};{rfl});intro i j hi F G;rw[q i hi,q j F];exact o i j (by simpa using hi) (by simpa using F) G};{rcases p8.1 c with c|c;{obtain⟨z,hz,l,r⟩:=h.got y c;exact⟨z,n z hz (by rw[l];exact ZQ y c),l,r⟩};{rw[nD.1 c];exact⟨b,u,by rw[g,s],ZO,ZR,K,ZP⟩}};{obtain⟨z,hz,l,r⟩:=h.mkg t (QJ _ p);exact⟨z,n z hz (by rw[l];exact j4 h1 t p),l,r⟩};{rcases PI c with D|rfl;{rcases h.all y D with ⟨z,hz,e⟩|h2;{exact .inl ⟨z,QJ _ hz,e⟩};{rcases p8.1 h2 with h2|h2;{exact .inr h2};{exact .inl ⟨x,RH _ (nD.2 rfl),by rw[s,nD.1 h2]⟩}}};{exact .inl ⟨x,RH _ (nD.2 rfl),by rw[s,g]⟩}}
end
theorem oN{S:Spc}(h:SpcOk S)(hi:atI (nm0 S.f0) S.n0 nm=T i):atI (nm1 S.f1) S.n1 nm=Y:=by
 have b:=h.chk;unfold ce at b;split at b;· omega
 split at b;· omega
 split at b;· omega
 split at b;· omega
 split at b;· omega
 split at b;· omega
 rename_i c;obtain⟨h1,h2⟩:=cW hi;have:=pt (Bool.eq_false_iff.2 c) h1;rw[h2] at this;exact vI this
open Ca
section
variable {w0:M}{S:Spc}{a0 a1:Option Addr}{c0 c1 hb:Nat}{md or st:ZC}{making:List ByteArray}{made:List Ent}{L:List SM}
theorem FZ (w:M)(nm:ByteArray)(h:SI w0 hb (Z a0 S.n0 c0) (Z a1 S.n1 c1) w making made L md or st)(x:L.length<=100000)(k:Nat)(m:SM)(h1:fI L nm=T k)(h2:L[k]?=T m)(D:m.done=ZG):Calls Pg 130 #[.pointer (T (Q hb 0 Y)),U nm] w λe w'=>e=ZF (ZH #[N I m.E,U m.B,Z Y 0 0])/\SI w0 hb (Z a0 S.n0 c0) (Z a1 S.n1 c1) w' making made L md or st/\KS w0.heap.size XN w w':=by
 obtain⟨o,f⟩:∃W:M,A w (J #[N I 0,U ⟨#[]⟩,Z Y 0 0] 39)=W:=⟨_,rfl⟩
 obtain⟨s,kr,-⟩:=nb1 f;have l:=ae f;clear f;have c:=ae (h.aa s ly);have b:w0.heap.size<=w.heap.size:=h.lt;have hkl:=(n8.1 h2).1;obtain⟨g,cap,cur,rfl,-⟩:=h.W.2.resolve_left (λh=>by omega);have z:ej (fI L nm)=(k:Int):=by rw[h1];rfl
 have p:=ae h2;obtain⟨n,hn⟩:∃n,n=L.length:=⟨_,rfl⟩
 have E:=ae hn;have hkn:k<n:=by omega
 clear h h1 h2 hn;go_enter func130,ntmps130;go_wp2_with fail;rw[l.out];clear l;refine(py o nm c x).mono ?_;rintro e w1 ⟨rfl,r⟩;rw[r];clear r;rw[z];obtain⟨hbl,-,-,y,-⟩:=c.ab.K;have d1:o.cell? (Q g (k*6+1) Y)=T (N I m.E):=cE c.W p 1 (by omega) rfl;have d2:o.cell? (Q g (k*6+2) Y)=T (U m.B):=cE c.W p 2 (by omega) rfl;have d3:o.cell? (Q g (k*6+3) Y)=T (Z Y 0 0):=cE c.W p 3 (by omega) rfl;have d5:o.cell? (Q g (k*6+5) Y)=T (ZD ZG):=by have:=cE c.W p.out 5 (by omega) (u:=ZD m.done) rfl;rw[D] at this;exact this
 rw[<-E.out] at y;obtain⟨rl,r0,r1,B,q⟩:=bv kr;have rf0:=q 0;have rf1:=q 1;have rf2:=q 2;have hI0:(0:Int)<=(k:Int):=by omega
 have hI1:(k:Int)<(n:Int):=by omega
 clear q;go_wp2_with fail;refine bp (v:=ZH #[N I m.E,U m.B,Z Y 0 0]) (by simp[results,TA,go_sem,r0,r1,B]) rfl ⟨rfl,?_,?_⟩;{have ZS:=c.X kr.out ⟨by decide,by decide,by decide,by decide⟩ b 0 (N I m.E);have t:=ay kr.out (j:=0) (N I m.E);have C:=ZS.X t ⟨by decide,by decide,by decide,by decide⟩ b 1 (U m.B);exact C.X (ay t (j:=1) (U m.B)) ⟨by decide,by decide,by decide,by decide⟩ b 2 (Z Y 0 0)}
 ·refine((((KS.u (X:=XN) s ly b).trans (KS.setCell (X:=λi=>i=w.heap.size) _ b (Or.inl rfl) _) ?_).trans (KS.setCell (X:=λi=>i=w.heap.size) _ b (Or.inl rfl) _) ?_).trans (KS.setCell (X:=λi=>i=w.heap.size) _ b (Or.inl rfl) _) ?_);all_goals
   intro i hi h;have e2:i=w.heap.size:=h;omega
theorem vP{ZR:List ByteArray}(h:w.ownsRow b 9 1 (Z (T (Q g 0 Y)) n cap) n (bW ZR)){t:ByteArray}(c:ZR[i]?=T t):w.cell? (Q g i Y)=T (U t):=by have h1:=h.cells (g:=g) rfl i (U t) (by rw[bW,OH,c];rfl);rw[addr_add,FM] at h1;exact h1
theorem xA (C:pz w0 S a0 a1)(w:M)(nm:ByteArray)(h:SI w0 hb (Z a0 S.n0 c0) (Z a1 S.n1 c1) w making made L md or st)(Lq:L.length<=100000)(Fd:making.length<=60)(k:Nat)(m:SM)(h1:fI L nm=T k)(h2:L[k]?=T m)(hd:m.done=ZA)(tg s:Nat)(ht:atI (nm1 S.f1) S.n1 nm=T tg)(hi:atL making nm=T s):Calls Pg 130 #[.pointer (T (Q hb 0 Y)),U nm] w λe w'=>mF w0 hb (Z a0 S.n0 c0) (Z a1 S.n1 c1) making L w e w' (.inr (.inl (making.drop s))):=by
 obtain⟨i1,Lh,Le,Lf,Lp⟩:=lF pA;obtain⟨W0,H⟩:∃W:M,A w (J #[N I 0,U ⟨#[]⟩,Z Y 0 0] 39)=W:=⟨_,rfl⟩
 obtain⟨A0,kr,-⟩:=nb1 H;have ZL:=ae H;clear H;have S0:=ae (h.aa A0 ly);have l:w0.heap.size<=w.heap.size:=h.lt;have hkl:=(n8.1 h2).1;obtain⟨g,cap,cur,rfl,-⟩:=h.W.2.resolve_left (λh=>by omega);have e1:ej (fI L nm)=(k:Int):=by rw[h1];rfl
 have G:ej (atI (nm1 S.f1) S.n1 nm)=(tg:Int):=by rw[ht];rfl
 have La:s<making.length/\(∃x,making[s]?=T x/\(x.toList == nm.toList)=ZG)/\∀(j:Nat) (y:ByteArray),j<s->making[j]?=T y->(y.toList == nm.toList)=ZA:=by unfold atL at hi;obtain⟨q1,q2,q3⟩:=SU.1 hi;refine⟨q1,⟨_,gq q1,q2⟩,λj y hj hy=>?_⟩;have:=q3 j hj;rw[Bool.not_eq_true] at this;rw[(n8.1 hy).2] at this;exact this
 obtain⟨DQ,⟨xi,DH,DE⟩,dg⟩:=La;obtain⟨R,f,cus,rfl,sm⟩:=h.rst.2.resolve_left (λh=>by omega);have Ln:making.length<=f:=sm.2.2.1;have H2:=ae h2;have Lo:=ae DH;have Lm:=ae dg;have KV:=ae DE;obtain⟨n,hn⟩:∃n,n=L.length:=⟨_,rfl⟩
 have HN:=ae hn;have hkn:k<n:=by omega
 obtain⟨c,V⟩:∃c,c=making.length:=⟨_,rfl⟩
 have B:=ae V;have CC:=ae C;have hsm:=C.ok.az;rw[<-V] at DQ Fd Ln;clear h h1 h2 hn C ht hi sm V DH DE dg;go_enter func130,ntmps130;go_wp2_with fail;rw[ZL.out];clear ZL;refine(py W0 nm S0 Lq).mono ?_;rintro e w1 ⟨rfl,mv⟩;rw[mv];clear mv;rw[e1];obtain⟨ZN,b0,b1,b2,-⟩:=S0.ab.K;have d5:W0.cell? (Q g (k*6+5) Y)=T (ZD ZA):=by have:=cE S0.W H2.out 5 (by omega) (u:=ZD m.done) rfl;rw[hd] at this;exact this
 rw[<-HN.out] at b2;have hI0:(0:Int)<=(k:Int):=by omega
 have hI1:(k:Int)<(n:Int):=by omega
 go_wp2_with fail;refine(iZ a0 S.n0 c0 a1 S.n1 c1 S.f0 nm W0 (by omega) (CC.src.aa S0.aq ly)).mono ?_;rintro e w1 ⟨rfl,ZS⟩;have S1:=ae (S0.aa ZS ly);have Bk:Hid (w1.heap[w.heap.size]?=_):=(ZS.block _ (ai kr)).trans kr;have K1:=ae (A0.trans (ZS.mono A0.size));clear ZS b0 b1 b2 ZN d5;obtain⟨ZN,b0,b1,-⟩:=S1.ab.K;go_wp2_with fail;refine(i8 a0 S.n0 c0 a1 S.n1 c1 S.f1 nm w1 (by omega) (CC.R.aa S1.aq ly)).mono ?_;rintro e F ⟨he,ZS⟩;rw[G] at he;subst he;have r:=ae (S1.aa ZS ly);have qr:Hid (F.heap[w.heap.size]?=_):=(ZS.block _ (ai Bk)).trans Bk;have K2:=ae (K1.trans (ZS.mono K1.size));clear ZS b0 b1 ZN;obtain⟨ZN,-,-,-,-,b4,b5,b6,b7,b8,ZK⟩:=r.ab.K;have Lj:=ZK 5;have Lc:=ZK 6;have JT:=ZK 7;have Ld:=ZK 8;rw[<-B.out] at b4;clear ZK;have hT0:(0:Int)<=(tg:Int):=by omega
 go_wp2_with fail;go_loop [9] (λi=>∃j:Nat,j<=s/\i=N I j) (λi=>s - (intOf i).toNat);case atStart=>exact⟨0,by omega,rfl⟩
 case round =>
  obtain⟨j,hj,rfl⟩:=hrel;obtain⟨y,hy⟩:∃y,making[j]?=T y:=⟨_,gq (by have:=B.out;omega)⟩
  have dj:F.cell? (Q R j Y)=T (U y):=vP r.rst hy;have hjm:(j:Int)<(c:Int):=by omega
  have HY:=ae hy;clear hy;by_cases KZ:j<s;{have Ll:=Lm.out j y KZ HY.out;have HNE:=ae Ll;go_wp2;exact⟨⟨j+1,by omega,by go_num⟩,by simp[intOf];omega⟩}
  ·obtain rfl:j=s:=by omega
   have hye:(y.toList == nm.toList)=ZG:=by
    have:=HY.out;rw[Lo.out] at this;cases this
    exact KV
   go_upto_region 22 with fail;clear dj b4 b5 b6 b7 b8 Lj Lc JT Ld;have ro:=ae (ay r.ab (j:=8) (ZD ZG))
   have R3:Hid ((F.setCell (Q hb 8 Y) (ZD ZG)).ownsRow w0.heap.size 9 1 (Z (T (Q R 0 Y)) making.length f) making.length (bW making)):=aA r.rst (λe=>by
    obtain⟨_,_,ph,D⟩:=aj r.rst hb e
    exact absurd (ar r.ab D) (by decide)) _ _
   have hbw:hb≠w.heap.size:=λe=>absurd (ar r.ab (e ▸ qr.out)) (by decide);have P:Hid ((F.setCell (Q hb 8 Y) (ZD ZG)).heap[w.heap.size]?=_):=(qh _ _ _ _ (WS hbw)).trans qr;have ZM:Hid (KS w0.heap.size XN w (F.setCell (Q hb 8 Y) (ZD ZG))):=(KS.u (X:=XN) K2 ly l).to (KS.setCell F r.hbB (.inr λf t fz ZR=>.inr (.inr (ar ZR r.ab))) _);have bt:w0.heap.size<=hb:=r.hbB;generalize World.setCell F _ _=b at ro R3 P ZM ⊢;have ZQ:Hid (ShBox b hb (Z a0 S.n0 c0) (Z a1 S.n1 c1) (Z (T (Q g 0 Y)) L.length cap) or (Z (T (Q R 0 Y)) making.length f) 0 ⟨#[]⟩ (Z Y 0 0) ZG):=ro.out;obtain⟨GS,-,-,-,-,b4,-⟩:=ZQ.K;rw[<-B.out] at b4;have LO:=ae (od b 9 1);have A4:=ae ((q9 b).alloc ly (J #[] 9));have Li:Hid (∀q u,(bW (making.drop j))[q]?=T u->(A b (J #[] 9)).cell? (((Q R j Y):Addr).add q)=T u):=λq u hq=>by have h1:=(own_below R3 A4 ly).cells (g:=R) rfl (j+q) u (by rw[<-hq,bW,bW,OH,OH,List.getElem?_drop]);rw[addr_add,FM] at h1;rw[addr_add];exact h1
   have hjc:¬ f=j:=by omega
   have hI2:(0:Int)<=(j:Int):=by omega
   have hI3:(j:Int)<=(c:Int):=by omega
   have hI4:(c:Int)<=(f:Int):=by omega
   have ur:(bW (making.drop j)).length=(c - j)*1:=by rw[bW,Q9,LK,<-B.out,Nat.mul_one]
   have Lr:=ae ur;have fd:∀u∈bW (making.drop j),u.oneCell'=ZG:=λu hu=>by rw[bW,QX] at hu;obtain⟨t,_,rfl⟩:=hu;rfl
   have Fk:=ae fd;clear ur fd;have HG:Hid (∀p:M,(A b (J #[] 9)).grownBy p (T b.heap.size)->p.heap[hb]?=b.heap[hb]?/\p.heap[w.heap.size]?=b.heap[w.heap.size]?):=λp hg=>by
    have hz:(A b (J #[] 9)).heap.size=b.heap.size+1:=by simp
    have Lg:=ai P.out;exact⟨(hg.block hb (by omega) (λe=>by have G:hb=b.heap.size:=BC e;omega)).trans (A4.block hb GS),(hg.block w.heap.size (by omega) (λe=>by have G:w.heap.size=b.heap.size:=BC e;omega)).trans (A4.block _ Lg)⟩
   have ZJ:b.heap.size<=(A b (J #[] 9)).heap.size:=by simp
   have Fn:(0+(c - j))*16<=140737488355328:=by omega
   have DS:0+(c - j)<=maxLen:=by unfold maxLen;omega
   have Fm:0+(c - j)≠0:=by omega
   go_wp2_with (first
    |(at_builtin;refine bD _ rfl (.tmp 129) (.tmp 135) 30 rfl b.heap.size 9 i1 (U ⟨#[]⟩) 1 16 IB Lh Le Lf Lp rfl (by decide) (Z (T (Q b.heap.size 0 Y)) 0 0) 0 [] (by simp[Act.eval]) LO.out (Q R j Y) (c - j) (f - j) (bW (making.drop j)) (by simp[Act.eval]) Lr.out Li.out Fk.out DS Fn ZJ ?_;intro v4 p ZO o Hx;have O4:=ae ZO;have n9:=ae (HG p o).1;have At:=ae (HG p o).2;have G4:=ae o;obtain⟨O,c4,cu4,rfl,Id⟩:=ZO.2.resolve_left (λh=>Fm h.2);clear Id ZO o Hx;obtain⟨hbl4,-,-,-,-,-,f5,f6,f7,-,ff⟩:=(ShBox.ad ZQ n9).K;have ff5:=ff 5;have ff6:=ff 6;have ff7:=ff 7;obtain⟨rl,r0,r1,r2,rf⟩:=bv (At.trans P);have rf0:=rf 0;have rf1:=rf 1;have rf2:=rf 2;have hbw2:¬ w.heap.size=hb:=(λe=>hbw e.symm);have ZP:¬ hb=w.heap.size:=hbw;clear ff rf)
    |fail)
   refine bp (v:=ZH #[N I 6,U ⟨#[]⟩,Z (T (Q O 0 Y)) (c - j) c4]) (by simp[results,TA,go_sem,r0,r1,r2]) rfl ?_;have la:(making.drop j).length=c - j:=by rw[LK,<-B.out]
   have aq:=n9.trans ZQ.out;have th:=ay aq (j:=5) (N I 6);have ld:=ay th (j:=6) (U ⟨#[]⟩);have Lb:=ay ld (j:=7) (Z (T (Q O 0 Y)) (c - j) c4);have K:(Value.slice (T (Q O 0 Y)) (c - j) c4).ownBlock≠T hb:=λe=>by obtain⟨_,_,ph,D⟩:=aj O4 hb (by simpa[Value.ownBlock] using e);exact absurd (ar aq D) (by decide)
   have E:(Value.slice (T (Q O 0 Y)) (c - j) c4).ownBlock≠T w.heap.size:=λe=>by obtain⟨_,_,ph,D⟩:=aj O4 w.heap.size (by simpa[Value.ownBlock] using e);exact absurd (ar (At.trans P) D) (by decide)
   have o4:p.ownsRow w0.heap.size 9 1 (Z (T (Q O 0 Y)) (c - j) c4) (c - j) (bW (making.drop j)):=by have h1:=O4.out;rw[FM,LY] at h1;exact aB h1 (p7 l ZM.aa.size)
   have k4:KS w0.heap.size XN w p:=(ZM.to (KS.u (X:=XN) A4 ly (p7 l ZM.aa.size))).to (KS.of_grown G4 (p7 (p7 l ZM.aa.size) ZJ) λq hq=>by
    have G:q=b.heap.size:=(BC hq).symm;refine⟨by rw[G];exact p7 l ZM.aa.size,.inr λf t fz ZR=>?_⟩;rw[G] at ZR
    exact .inl (ar ZR (nL b _)))
   have z:∀(W:M) (f:Array ZC) (t:ZI) (fz:Nat × Nat),W.heap[hb]?=p.heap[hb]?∨(∃c2,W.heap[hb]?=T (J c2 117 (0,0)))->W.heap[hb]?=T (J f t fz)->t=9∨t=198∨t=117:=λW f t fz hW ZR=>by
    rcases hW with hW|⟨c2,hW⟩
    {exact .inr (.inr (ar ZR (hW.trans aq)))};{exact .inr (.inr (ar ZR hW))}
   refine⟨T (Q O 0 Y),c4,by rw[la];rfl,⟨_,_,_,_,_,(qh _ _ _ _ ZP).trans ((qh _ _ _ _ ZP).trans ((qh _ _ _ _ ZP).trans (by rw[la];exact Lb))),?_⟩,?_⟩;{show World.ownsRow _ _ _ _ _ (making.drop j).length _;rw[la];exact aA (aA (aA (aA (aA (aA o4 K _ _) K _ _) K _ _) E _ _) E _ _) E _ _}
   ·have k7:=((k4.to (KS.setCell (X:=XN) p bt (.inr λf t fz=>z _ f t fz (.inl rfl)) (N I 6) (j:=5))).to (KS.setCell (X:=XN) _ bt (.inr λf t fz=>z _ f t fz (.inr ⟨_,th⟩)) (U ⟨#[]⟩) (j:=6))).to (KS.setCell (X:=XN) _ bt (.inr λf t fz=>z _ f t fz (.inr ⟨_,ld⟩)) (Z (T (Q O 0 Y)) (c - j) c4) (j:=7));refine((k7.trans (KS.setCell (X:=λi=>i=w.heap.size) _ l (Or.inl rfl) _) ?_).trans (KS.setCell (X:=λi=>i=w.heap.size) _ l (Or.inl rfl) _) ?_).trans (KS.setCell (X:=λi=>i=w.heap.size) _ l (Or.inl rfl) _) ?_;all_goals
     intro i hi h;have G:i=w.heap.size:=h;omega
end
def gD (nm:ByteArray):SM:=⟨nm,0,⟨#[]⟩,[],Z Y 0 0,ZA⟩
theorem F0 (w:M)(c m i b l g:ZC)(t:ZI):∀j u,[c,m,i,b,l,g][j]?=T u->(A w (J #[c,m,i,b,l,g] t)).cell? (((Q w.heap.size 0 Y):Addr).add j)=T u:=by
 intro j u h;rw[addr_add];have hj:j<6:=by
  rcases PR j 6 with f|f;{exact f};{rw[OT (by simp;omega)] at h;cases h}
 rcases(show j=0∨j=1∨j=2∨j=3∨j=4∨j=5 by omega) with rfl|rfl|rfl|rfl|rfl|rfl;all_goals
  simp at h;subst h;simp
theorem pE (w:M)(v:ZC)(t:ZI):∀j u,[v][j]?=T u->(A w (J #[v] t)).cell? (((Q w.heap.size 0 Y):Addr).add j)=T u:=by
 intro j u h;rw[addr_add];have c:j=0:=by
  rcases PR j 1 with b|b;{omega};{rw[OT (by simp;omega)] at h;cases h}
 subst c;simp at h;subst h;simp
theorem j7{v:ZC}{c:List ZC}(h:w.ownsRow b e size v n c):∃a cap,v=Z a n cap:=by
 obtain⟨_,⟨rfl,rfl⟩|⟨g,cap,cur,rfl,_⟩⟩:=h;{exact⟨Y,0,rfl⟩};{exact⟨_,_,rfl⟩}
theorem KS.fresh{W:M}(h:KS B XN W w)(hb:W.heap.size<=b)(f:B<=W.heap.size)(j:Nat)(u:ZC):KS B XN W (w.setCell (Q b j Y) u) :=
 h.trans (KS.setCell (X:=λi=>i=b) w (p7 f hb) (Or.inl rfl) u) λi hi c=>by have e2:i=b:=c;omega
section
variable {w0 w:M}{hb:Nat}{s0 s1 or st:ZC}{making:List ByteArray}{made:List Ent}{L:List SM}
theorem SI.upd'{k:Nat}(i:L.length=ZO)(h:SI w0 hb s0 s1 w making made L (Z (T (Q g 0 Y)) ZO cap) or st)(b:L[k]?=T m)(c:j<6)(f:smV m'=(smV m).set j u)(l:m'.done=ZG->w.ownsRow w0.heap.size 201 3 m'.sv m'.c.length (eG m'.c)):SI w0 hb s0 s1 (w.setCell (Q g (k*6+j) Y) u) making made (L.set k m') (Z (T (Q g 0 Y)) ZO cap) or st/\KS w0.heap.size XN w (w.setCell (Q g (k*6+j) Y) u)/\(L.set k m')[k]?=T m'/\(L.set k m').length=ZO:=by subst i;have:=h.upd b c f l;rw[LB] at this;exact⟨this.1,this.2,P7 (n8.1 b).1,LB⟩
theorem SI.told{k:Nat}(x:L.length=ZO)(h:SI w0 hb s0 s1 w making made L (Z (T (Q g 0 Y)) ZO cap) or st)(p:L[k]?=T m)(r:m.done=ZA)(b:Int)(rt:ByteArray):SI w0 hb s0 s1 (((w.setCell (Q g (k*6+1) Y) (N I b)).setCell (Q g (k*6+1+1) Y) (U rt)).setCell (Q g (k*6+1+2) Y) (Z Y 0 0)) making made (L.set k ⟨m.e,b,rt,m.c,m.sv,ZA⟩) (Z (T (Q g 0 Y)) ZO cap) or st/\KS w0.heap.size XN w (((w.setCell (Q g (k*6+1) Y) (N I b)).setCell (Q g (k*6+1+1) Y) (U rt)).setCell (Q g (k*6+1+2) Y) (Z Y 0 0))/\(L.set k ⟨m.e,b,rt,m.c,m.sv,ZA⟩)[k]?=T ⟨m.e,b,rt,m.c,m.sv,ZA⟩/\(L.set k ⟨m.e,b,rt,m.c,m.sv,ZA⟩).length=ZO:=by obtain⟨a1,z,y,o⟩:=h.upd' x p (j:=1) (by omega) (u:=N I b) (m':=⟨m.e,b,m.B,m.c,m.sv,ZA⟩) (by simp[smV,r]) (λh=>by cases h);obtain⟨n,l,s,q⟩:=a1.upd' o y (j:=2) (by omega) (u:=U rt) (m':=⟨m.e,b,rt,m.c,m.sv,ZA⟩) rfl (λh=>by cases h);obtain⟨i,t,f,c⟩:=n.upd' q s (j:=3) (by omega) (m':=⟨m.e,b,rt,m.c,m.sv,ZA⟩) (u:=Z Y 0 0) rfl (λh=>by cases h);rw[VN,VN] at i f c;exact⟨i,(z.to l).to t,f,c⟩
end
theorem Kt{z:Int}(h0:0<=z)(h1:z<=1048576):IntKind.i64.wrap z=z:=by rw[p9];omega
theorem JP{c:Nat}{t:ZI}{v:ZC}{i:List ZC}{g:Array ZC}{fz:Nat × Nat}(h:w.ownsRow c e size v n i)(hb:w.heap[b]?=T (J g t fz))(f:e≠t):v.ownBlock≠T b:=λk=>by obtain⟨_,_,cs',j⟩:=aj h b k;exact f (ar j hb)
theorem JQ{w':M}{v:ZC}{b:List ZC}(h:w.ownsRow B 201 3 v n b)(c:KS B XN w w'):w'.ownsRow B 201 3 v n b:=dw h λk e=>by obtain⟨_,_,cs,f⟩:=aj h k e;exact c.ad _ _ _ _ f (by decide) (by decide) (by decide) λh=>h
theorem LExt.add (n:Nat)(L:List SM)(g:m.done=ZA):LExt n L (L++[m]):=by
 refine⟨λi f b=>⟨f,?_,rfl⟩,λf b c=>?_⟩;{rw[OP (n8.1 b).1];exact b};{rcases p8.1 b with b|b;{exact .inl ⟨f,b,c,rfl⟩};{rw[nD.1 b,g] at c;cases c}}
theorem LExt.set{k:Nat}{g:List SM}(h:LExt n L g)(r:g[k]?=T m)(t:c.e=m.e)(u:∀j,c.sv.ownBlock=T j->n<=j):LExt n L (g.set k c):=by
 refine⟨λi l b=>?_,λl b q=>?_⟩
 ·obtain⟨s,h3,p⟩:=h.nam i l b;by_cases f:k=i
  ·subst f;rw[r] at h3;cases h3
   exact⟨c,P7 (n8.1 r).1,t.trans p⟩
  {exact⟨s,by rw[QU f];exact h3,p⟩}
 {rcases PI b with o|rfl;{exact h.sn l o q};{exact .inr u}}
section
variable {w0:M}{S:Spc}{a0 a1:Option Addr}{c0 c1 hb:Nat}{md or st:ZC}{making:List ByteArray}{made:List Ent}{L:List SM}
set_option linter.unusedVariables false in
theorem mH:(∀(C:pz w0 S a0 a1) (w:M) (nm:ByteArray) (h:SI w0 hb (Z a0 S.n0 c0) (Z a1 S.n1 c1) w making made L md or st) (LF:L.length<=100000) (Ni:made.length<=100000) (h1:fI L nm=Y) (h3:atI (nm1 S.f1) S.n1 nm=Y) (f:Int) (tx:ByteArray) (hw:(atI (nm0 S.f0) S.n0 nm=Y/\f=4/\tx=nm)∨∃si,atI (nm0 S.f0) S.n0 nm=T si/\f=0/\tx=(S.f0 si).B) (kd:Int) (te:ByteArray),Calls Pg 130 #[.pointer (T (Q hb 0 Y)),U nm] w λe w'=>∃Li Lj,e=ZF (ZH #[N I f,U tx,Z Y 0 0])/\SI w0 hb (Z a0 S.n0 c0) (Z a1 S.n1 c1) w' making (made++[⟨nm,kd,0,te,0,[]⟩]) ((L++[gD nm]).set L.length ⟨nm,f,tx,[],Z Y 0 0,ZG⟩) Li Lj st/\KS w0.heap.size XN w w')/\(∀(C:pz w0 S a0 a1) (w:M) (nm:ByteArray) (h:SI w0 hb (Z a0 S.n0 c0) (Z a1 S.n1 c1) w making made L md or st) (LF:L.length<=100000) (h1:fI L nm=Y) (hi:atL making nm=Y) (tg:Nat) (h3:atI (nm1 S.f1) S.n1 nm=T tg) (X:Out Ent) (hd:(making.length=60/\X=.inr (.inr nm))∨∃n',making.length+(n'+1)=60/\nH w0 S hb (Z a0 S.n0 c0) (Z a1 S.n1 c1) n'/\fH L making made/\PG S making made/\fj S making made 1/\MT S making/\cL made nm=Y/\X=nC nm tg (dR S (bC S n' (making++[nm])) tg 201 made [] [])),Calls Pg 130 #[.pointer (T (Q hb 0 Y)),U nm] w λe w'=>mF w0 hb (Z a0 S.n0 c0) (Z a1 S.n1 c1) making L w e w' X):=by
 refine⟨λC w nm h LF Ni h1 h3 f tx hw kd te=>?_,λC w nm h LF h1 hi tg h3 X hd=>?_⟩;rotate_left;focus
  rcases hd with ⟨Lo,hX⟩|⟨n',NH,HK,hrel,hp,At,Nc,ZM,hX⟩
  case' inl=>(subst hX;have DEEP:=True.intro)
  case' inr =>
   obtain⟨-,dg⟩:=Dp hrel ZM hi;have hmade:made.length<=50000:=by unfold fj at At;omega
   have Lo:making.length<60:=by omega
   have qr:=(cW h3).1;obtain⟨R,hR⟩:∃R,R=dR S (bC S n' (making++[nm])) tg 201 made [] []:=⟨_,rfl⟩
   have HR:=ae hR;obtain⟨tb,M5,Nf,Mw⟩:=C.R.resolve_left (by omega);have N9:=ae Nf;have Ls:=ae Mw;have Mc:Hid (∀(W:M) (Li Lj Mg:ZC) (a:Option Addr) (cap:Nat),SI w0 hb (Z a0 S.n0 c0) (Z a1 S.n1 c1) W (making++[nm]) made (L++[gD nm]) Li Lj Mg->SlIns w0 a (S.f1 tg).f (S.f1 tg).H->Calls Pg 184 #[.pointer (T (Q hb 0 Y)),ZH #[Z a (S.f1 tg).f cap]] W λe w'=>pC w0 hb (Z a0 S.n0 c0) (Z a1 S.n1 c1) (making++[nm]) (L++[gD nm]) W e w' R):=by
    intro W Li Lj Mg a cap hS LI;rw[hR];refine FV C n' HK made _ Li Lj Mg W a cap tg (by rw[cM,DW];omega) hS (sZ hrel dg rfl rfl) (rB hp ZM) ?_ ?_ qr LI
    ·have:=iW qr (cW h3).2 ZM hi
     unfold fj at At ⊢;omega
    ·intro t ht
     rcases p8.1 ht with ht|ht
     ·exact Nc t ht
     ·rw[nD.1 ht,h3];rfl
   have HI:=ae hi;have H0:=ae ZM;have Nd:Hid (∀E x,R=.inl (E,x)->E.length<=100000/\∀y∈E,y.e≠nm):=by intro E x he;rw[hR] at he;have g1:=sP C.ok qr (mC C.ok n' (making++[nm])) _ _ _ _ _ _ (rB hp ZM) (vt S made) rfl he;have l:=sO (λmade NS MR e=>mB S n' (making++[nm]) made NS MR e) _ _ _ _ _ _ he;have g3:=iW qr (cW h3).2 ZM hi;refine⟨?_,(rC g1.1).2⟩;unfold gC at l;unfold fj at At;omega
   have Nl:=ae dg;have HREL:=ae hrel;subst hX;rw[<-hR];clear HK hp At Nc ZM Mw Nf hR dg hrel;clear NH qr
 all_goals
  obtain⟨im,Og,NL,Fd,Mz⟩:=lF FK;obtain⟨i1,ML,MH,Mk,Mn⟩:=lF pA;obtain⟨W0,Lp⟩:∃W:M,A w (J #[N I 0,U ⟨#[]⟩,Z Y 0 0] 39)=W:=⟨_,rfl⟩
  obtain⟨A0,kr,-⟩:=nb1 Lp;have Mq:=ae Lp;clear Lp;have S0:=ae (h.aa A0 ly);have B:w0.heap.size<=w.heap.size:=h.lt;have e1:ej (fI L nm)=-1:=by rw[h1];rfl
  obtain⟨am,cm,rfl⟩:=j7 h.W;obtain⟨n,hn⟩:∃n,n=L.length:=⟨_,rfl⟩
  have HN:=ae hn;have CC:=ae C;have hsm:=C.ok.az;have hn1:n<=100000:=by omega
  clear h h1 hn C
 rotate_left 2;focus
  have et:ej (atI (nm1 S.f1) S.n1 nm)=-1:=by rw[h3];rfl
  rcases hw with ⟨h2,DE,ME⟩|⟨si,h2,DE,ME⟩
  case' inl=>have es:ej (atI (nm0 S.f0) S.n0 nm)=-1:=by rw[h2];rfl
  case' inr =>
   have es:ej (atI (nm0 S.f0) S.n0 nm)=(si:Int):=by rw[h2];rfl
   have Ol:=(cW h2).1;obtain⟨sb,so,Nm,MU⟩:∃sb so,a0=T (Q sb so Y)/\RowSource w0 sb so S.n0 S.f0:=by
    rcases CC.src with h|⟨b,off,e,hr⟩
    ·omega
    ·exact⟨b,off,e,hr⟩
   have Mm:=ae MU;have NR:=ae Nm;clear MU Nm
  all_goals
   have MY:=ae ME;have MX:=ae DE;clear h2 h3 ME DE
 rotate_left 2;iterate 2
  focus
   obtain⟨es0,es⟩:∃z,ej (atI (nm0 S.f0) S.n0 nm)=z:=⟨_,rfl⟩
   have et:ej (atI (nm1 S.f1) S.n1 nm)=(tg:Int):=by rw[h3];rfl
   have MN:∀(j:Nat) (y:ByteArray),making[j]?=T y->(y.toList == nm.toList)=ZA:=λj y hy=>by unfold atL at hi;rw[SV] at hi;exact hi y (LD hy)
   have NZ:=ae MN;obtain⟨ms,LX⟩:∃ms,ms=making.length:=⟨_,rfl⟩
   have fd:=ae LX;have hT0:(0:Int)<=(tg:Int):=by omega
   have qr:=(cW h3).1;rw[<-LX] at Lo;obtain⟨Nh,Nn,rfl⟩:=j7 S0.rst;clear h3 hi MN LX
  rotate_left
 all_goals
  go_enter func130,ntmps130;go_wp2_with fail;rw[Mq.out];clear Mq;refine(py W0 nm S0 LF).mono ?_;rintro e w1 ⟨rfl,MV⟩;rw[MV,e1];clear MV e1;obtain⟨G,-,-,b2,-⟩:=S0.ab.K;rw[<-HN.out] at b2;have A1:=ae ((q9 W0).alloc ly (J #[U nm,N I 0,U ⟨#[]⟩,Z Y 0 0,Z Y 0 0,ZD ZA] 198));have SA:=ae (S0.aa A1 ly);have RM:=ae (by have h:=SA.W;rw[<-HN.out] at h;exact h);have Of:(A W0 (J #[U nm,N I 0,U ⟨#[]⟩,Z Y 0 0,Z Y 0 0,ZD ZA] 198)).heap.size=W0.heap.size+1:=by simp
  have HG:Hid (∀H:M,(A W0 (J #[U nm,N I 0,U ⟨#[]⟩,Z Y 0 0,Z Y 0 0,ZD ZA] 198)).grownBy H (Value.slice am n cm).ownBlock->H.heap[hb]?=(A W0 (J #[U nm,N I 0,U ⟨#[]⟩,Z Y 0 0,Z Y 0 0,ZD ZA] 198)).heap[hb]?):=λH hg=>hg.block hb (by omega) λe=>by obtain⟨_,_,cs,hc⟩:=aj RM hb e.symm;exact absurd (ar SA.ab hc) (by decide)
  have NF:w0.heap.size<=(A W0 (J #[U nm,N I 0,U ⟨#[]⟩,Z Y 0 0,Z Y 0 0,ZD ZA] 198)).heap.size:=SA.lt;have hz1':W0.heap.size<(A W0 (J #[U nm,N I 0,U ⟨#[]⟩,Z Y 0 0,Z Y 0 0,ZD ZA] 198)).heap.size:=by omega
  clear Of
  go_upto_region 7 with (first
   |(at_builtin;refine bD _ rfl (.tmp 46) (.tmp 49) 115 rfl w0.heap.size 198 im (ZH #[U ⟨#[]⟩,N I 0,U ⟨#[]⟩,Z Y 0 0,Z Y 0 0,ZD ZA]) 6 96 underlying115 Og NL Fd Mz rfl (by decide) (Z am n cm) n (L.flatMap smV) (by simp[Act.eval]) RM.out (Q W0.heap.size 0 Y) 1 1 [U nm,N I 0,U ⟨#[]⟩,Z Y 0 0,Z Y 0 0,ZD ZA] (by simp[Act.eval]) rfl (F0 W0 _ _ _ _ _ _ _) (by simp[Value.oneCell']) (by unfold maxLen;omega) (by omega) NF ?_;intro v2 H F r la;have O2:=ae F;have G2:=ae r;have Nk:=ae (HG H r);obtain⟨l,Fk,cu2,rfl,Ot⟩:=F.2.resolve_left (λh=>by omega);clear Ot F r la;obtain⟨Ns,-,-,f2,-,-,-,-,-,-,ff⟩:=(ShBox.ad SA.ab Nk).K;have Ou:=ff 2;clear ff)
   |fail)
  have SX:=ae (SA.addL (m:=gD nm) (w':=H) (v:=Z (T (Q l 0 Y)) (n+1) Fk) (by rw[<-HN.out];exact G2) (by rw[<-HN.out];exact O2) rfl);have S3:=ae SX.1;have K3:Hid (KS w0.heap.size XN w (H.setCell (Q hb 2 Y) (Z (T (Q l 0 Y)) (n+1) Fk))):=((KS.u (X:=XN) A0 ly B).to (KS.u A1 ly S0.lt)).to SX.2;have Lw:Hid ((H.setCell (Q hb 2 Y) (Z (T (Q l 0 Y)) (n+1) Fk)).heap[w.heap.size]?=T (J #[N I 0,U ⟨#[]⟩,Z Y 0 0] 39 (0,0))):=by have ZM:=(A1.block _ (ai kr)).trans kr;exact(SX.2.ad _ _ _ _ ZM (by decide) (by decide) (by decide) λh=>h).trans ZM
  have aq:(L++[gD nm]).length=n+1:=by rw[cM,DW,<-HN.out]
  have bt:Hid ((L++[gD nm])[n]?=T (gD nm)):=by rw[HN.out];show _=_;rw[IX ly,Nat.sub_self];rfl
  clear SX f2 Ou Ns b2 G RM SA A1 HG O2 G2 Nk;generalize World.setCell H _ _=W3 at S3 K3 Lw ⊢;obtain⟨G,b0,b1,-⟩:=S3.ab.K;go_wp2_with fail;refine(iZ a0 S.n0 c0 a1 S.n1 c1 S.f0 nm W3 (by omega) (CC.src.aa S3.aq ly)).mono ?_;rintro e w4 ⟨he,hB⟩;rw[es] at he;subst he;have S4:=ae (S3.aa hB ly);have MK:Hid (w4.heap[w.heap.size]?=_):=(hB.block _ (ai Lw)).trans Lw;have K4:=ae (K3.to (KS.u (X:=XN) hB ly S3.lt));clear hB b0 b1 G S3 K3 Lw;obtain⟨G,b0,b1,-⟩:=S4.ab.K;go_wp2_with fail;refine(i8 a0 S.n0 c0 a1 S.n1 c1 S.f1 nm w4 (by omega) (CC.R.aa S4.aq ly)).mono ?_;rintro e O ⟨he,hB⟩;rw[et] at he;subst he;have S5:=ae (S4.aa hB ly);have th:Hid (O.heap[w.heap.size]?=T (J #[N I 0,U ⟨#[]⟩,Z Y 0 0] 39 (0,0))):=(hB.block _ (ai MK)).trans MK;have K5:=ae (K4.to (KS.u (X:=XN) hB ly S4.lt));clear hB b0 b1 G S4 K4 MK A0 S0 kr
 iterate 2
  ·first
    |guard_hyp Mm
     have A5:=ae ((q9 O).alloc ly (J #[N I 4,U nm,Z Y 0 0] 39));have Mp:=ae (S5.aa A5 ly);have hI0:(0:Int)<=(si:Int):=by omega
     have hI1:(si:Int)<(S.n0:Int):=by omega
     have q0:(A O (J #[N I 4,U nm,Z Y 0 0] 39)).cell? (Q hb 0 Y)=T (Z (T (Q sb so Y)) S.n0 c0):=by have h:=Mp.ab.K.2.1;rw[NR.out] at h;exact h
     have q1:(A O (J #[N I 4,U nm,Z Y 0 0] 39)).cell? (Q sb (so+si*2+1) Y)=T (U tx):=by rw[MY.out];exact((Mm.aa Mp.aq ly).2 si Ol).2
     have G:=S5.ab.K.1;have ql:sb<O.heap.size:=lj Mm.1 S5.lt;go_upto_region 13 with fail;clear q0 q1 ql G A5 Mp;obtain⟨ZS,Lq⟩:∃W:M,A O (J #[N I 0,U tx,Z Y 0 0] 39)=W:=⟨_,rfl⟩
     obtain⟨A6,-,-⟩:=nb1 Lq;have Lr:=ae Lq;clear Lq;have ZK:Hid (ZS.heap[O.heap.size]?=T (J #[N I f,U tx,Z Y 0 0] 39 (0,0))):=by rw[<-Lr.out];rw[MX.out];exact nL _ _
     rw[Lr.out];clear Lr
    |skip
     go_upto_region 13 with fail;have ZK:Hid ((A O (J #[N I 4,U nm,Z Y 0 0] 39)).heap[O.heap.size]?=T (J #[N I f,U tx,Z Y 0 0] 39 (0,0))):=by rw[MX.out,MY.out];exact nL _ _
     have A6:=ae ((q9 O).alloc ly (J #[N I 4,U nm,Z Y 0 0] 39));generalize World.alloc O _=ZS at A6 ZK ⊢
   have P:=ae (S5.aa A6 ly);have ro:Hid (ZS.heap[w.heap.size]?=T (J #[N I 0,U ⟨#[]⟩,Z Y 0 0] 39 (0,0))):=(A6.block _ (ai th)).trans th;have K6:=ae (K5.to (KS.u (X:=XN) A6 ly S5.lt));obtain⟨s,Lh⟩:∃s,s=O.heap.size:=⟨_,rfl⟩
   rw[<-Lh] at ZK ⊢;have Nx:w.heap.size<=s:=by have:=K5.aa.size;omega
   clear Lh A6 S5 th K5;obtain⟨G,-,-,b2,-⟩:=P.ab.K;obtain⟨rl,r0,r1,r2,-⟩:=bv ZK;obtain⟨ND,NG,LG,Bk⟩:=aj P.W l rfl;have DH:=ae Bk;have R6:=ae (by have h:=P.W;rw[aq] at h;exact h);have q1:ZS.cell? (Q l (n*6+1) Y)=T (N I 0):=cE (by rw[aq];exact R6) bt 1 (by omega) rfl;have q2:ZS.cell? (Q l (n*6+1+1) Y)=T (U ⟨#[]⟩):=cE (by rw[aq];exact R6) bt 2 (by omega) rfl;have q3:ZS.cell? (Q l (n*6+1+2) Y)=T (Z Y 0 0):=cE (by rw[aq];exact R6) bt 3 (by omega) rfl;have qf:∀j,ZS.frozen? (Q l j Y)=ZA:=λj=>by simp[World.frozen?,Bk]
   have MF:=qf (n*6+1);have Mh:=qf (n*6+1+1);have LU:=qf (n*6+1+2);clear qf Bk;have NT:(n:Int)<(n:Int)+1:=by omega
   have ld:l≠hb:=by intro e;have h:=DH.out;rw[e] at h;exact absurd (ar h P.ab) (by decide)
   have o:l≠s:=by intro e;have h:=DH.out;rw[e] at h;exact absurd (ar h ZK) (by decide)
   refine wp_region_held_drew (S:=λV=>V.cell? (Q hb 2 Y)=T (Z (T (Q l 0 Y)) (n+1) Fk)/\V.cell? (Q s 0 Y)=T (N I f)/\V.cell? (Q s 1 Y)=T (U tx)/\V.cell? (Q s 2 Y)=T (Z Y 0 0)) (by kernel_rfl) ⟨b2,r0,r1,r2⟩ λhS=>?_;have HS:=ae hS;clear hS
   iterate 8
    first|refine bI 0 (v:=?_) rfl rfl (by kernel_rfl) (λ_ _ _ h=>h) rfl ?_ HS ?_|refine bI 4 (v:=?_) rfl rfl (by kernel_rfl) (λ_ _ _ h=>h) rfl ?_ HS ?_
    rotate_left
    ·(rintro wz ⟨s0,s1,s2,s3⟩;go_simp)
     (try with_reducible rfl)
    (try simp only[Act.put,nzL])
   have TL:=ae (P.told aq bt rfl f tx)
   have Lf:Hid ((((ZS.setCell (Q l (n*6+1) Y) (N I f)).setCell (Q l (n*6+1+1) Y) (U tx)).setCell (Q l (n*6+1+2) Y) (Z Y 0 0)).drew.cell? (Q hb 2 Y)=T (Z (T (Q l 0 Y)) (n+1) Fk)/\(((ZS.setCell (Q l (n*6+1) Y) (N I f)).setCell (Q l (n*6+1+1) Y) (U tx)).setCell (Q l (n*6+1+2) Y) (Z Y 0 0)).drew.cell? (Q s 0 Y)=T (N I f)/\(((ZS.setCell (Q l (n*6+1) Y) (N I f)).setCell (Q l (n*6+1+1) Y) (U tx)).setCell (Q l (n*6+1+2) Y) (Z Y 0 0)).drew.cell? (Q s 1 Y)=T (U tx)/\(((ZS.setCell (Q l (n*6+1) Y) (N I f)).setCell (Q l (n*6+1+1) Y) (U tx)).setCell (Q l (n*6+1+2) Y) (Z Y 0 0)).drew.cell? (Q s 2 Y)=T (Z Y 0 0)) :=
    ⟨(cell_far _ _ _ _ ld).trans ((cell_far _ _ _ _ ld).trans ((cell_far _ _ _ _ ld).trans b2)),(cell_far _ _ _ _ o).trans ((cell_far _ _ _ _ o).trans ((cell_far _ _ _ _ o).trans r0)),(cell_far _ _ _ _ o).trans ((cell_far _ _ _ _ o).trans ((cell_far _ _ _ _ o).trans r1)),(cell_far _ _ _ _ o).trans ((cell_far _ _ _ _ o).trans ((cell_far _ _ _ _ o).trans r2))⟩
   refine aS (i:=8) rfl (by kernel_rfl) λK hK=>?_;go_simp;refine hK _ _ Lf ?_;clear hK K HS q1 q2 q3 MF Mh LU b2 r0 r1 r2 rl
   (try simp only[Act.put])
   refine wpAnyH_done (by kernel_rfl) ?_ _;have D7:Hid (Below (((ZS.setCell (Q l (n*6+1) Y) (N I f)).setCell (Q l (n*6+1+1) Y) (U tx)).setCell (Q l (n*6+1+2) Y) (Z Y 0 0)).heap.size (((ZS.setCell (Q l (n*6+1) Y) (N I f)).setCell (Q l (n*6+1+1) Y) (U tx)).setCell (Q l (n*6+1+2) Y) (Z Y 0 0)) (((ZS.setCell (Q l (n*6+1) Y) (N I f)).setCell (Q l (n*6+1+1) Y) (U tx)).setCell (Q l (n*6+1+2) Y) (Z Y 0 0)).drew):=br.drew;have S7:=ae (TL.1.aa D7 ly);have K7:=ae (K6.to (TL.2.1.to (KS.u (X:=XN) D7 ly TL.1.lt)));have Lm:=TL.2.2.1;have Ll:=TL.2.2.2;have ZR:Hid ((((ZS.setCell (Q l (n*6+1) Y) (N I f)).setCell (Q l (n*6+1+1) Y) (U tx)).setCell (Q l (n*6+1+2) Y) (Z Y 0 0)).drew.heap[w.heap.size]?=T (J #[N I 0,U ⟨#[]⟩,Z Y 0 0] 39 (0,0))):=by have ZM:=(TL.2.1.ad _ _ _ _ ro (by decide) (by decide) (by decide) λh=>h).trans ro;exact ZM
   have mv:Hid ((((ZS.setCell (Q l (n*6+1) Y) (N I f)).setCell (Q l (n*6+1+1) Y) (U tx)).setCell (Q l (n*6+1+2) Y) (Z Y 0 0)).drew.heap[s]?=T (J #[N I f,U tx,Z Y 0 0] 39 (0,0))):=by have ZM:=(TL.2.1.ad _ _ _ _ ZK (by decide) (by decide) (by decide) λh=>h).trans ZK;exact ZM
   have Fm:=ae Lm;have Fn:=ae Ll;clear TL Lf Lm Ll ro ZK K6 P R6 DH D7;generalize World.drew (World.setCell (World.setCell (World.setCell ZS _ _) _ _) _ _)=W7 at S7 K7 ZR mv ⊢;obtain⟨G,-,-,b2,-⟩:=S7.ab.K;obtain⟨LJ,LQ,Nj,sm⟩:=aj S7.W l rfl;have q5:W7.cell? (Q l (n*6+5) Y)=T (ZD ZA):=cE (by have h:=S7.W;rw[Fn.out] at h ⊢;exact h) Fm 5 (by omega) rfl;have Md:W7.frozen? (Q l (n*6+5) Y)=ZA:=by simp[World.frozen?,sm]
   have ZJ:=ae (S7.upd' Fn Fm (j:=5) (by omega) (u:=ZD ZG) (m':=⟨nm,f,tx,[],Z Y 0 0,ZG⟩) rfl (λ_=>⟨rfl,.inl ⟨rfl,rfl⟩⟩));have D:Hid ((W7.setCell (Q l (n*6+5) Y) (ZD ZG)).heap[w.heap.size]?=T (J #[N I 0,U ⟨#[]⟩,Z Y 0 0] 39 (0,0))):=(ZJ.2.1.ad _ _ _ _ ZR (by decide) (by decide) (by decide) λh=>h).trans ZR;have ZL:Hid ((W7.setCell (Q l (n*6+5) Y) (ZD ZG)).heap[s]?=T (J #[N I f,U tx,Z Y 0 0] 39 (0,0))):=(ZJ.2.1.ad _ _ _ _ mv (by decide) (by decide) (by decide) λh=>h).trans mv;have S8:=ae ZJ.1;have K8:=ae (K7.to ZJ.2.1);clear sm;go_upto_region 15 with fail;clear b2 q5 Md ZJ S7 K7 ZR mv;generalize World.setCell W7 _ _=ZQ at S8 K8 D ZL ⊢;obtain⟨ao,co,rfl⟩:=j7 S8.ror;obtain⟨q,hq⟩:∃q,q=made.length:=⟨_,rfl⟩
   have HQ:=ae hq;rw[<-hq] at Ni;clear hq;obtain⟨G,-,-,-,b3,-⟩:=S8.ab.K;rw[<-HQ.out] at b3;have ZP:=ae ((q9 ZQ).alloc ly (J #[U nm] 9));have S9:=ae (S8.aa ZP ly);have RO:=ae (by have h:=S9.ror;rw[<-HQ.out] at h;exact h);have Ln:w0.heap.size<=(A ZQ (J #[U nm] 9)).heap.size:=S9.lt;have HG:Hid (∀H:M,(A ZQ (J #[U nm] 9)).grownBy H (Value.slice ao q co).ownBlock->H.heap[hb]?=(A ZQ (J #[U nm] 9)).heap[hb]?/\H.heap[w.heap.size]?=(A ZQ (J #[U nm] 9)).heap[w.heap.size]?/\H.heap[s]?=(A ZQ (J #[U nm] 9)).heap[s]?):=λH hg=>by
    have dg:∀(i:Nat) (cs:Array ZC) (t:ZI) (fz:Nat × Nat),(A ZQ (J #[U nm] 9)).heap[i]?=T (Obj.cells cs t fz)->t≠9->H.heap[i]?=(A ZQ (J #[U nm] 9)).heap[i]?:=λi cs t fz hi ht=>hg.block i (ai hi) λe=>by obtain⟨_,_,LG,hc⟩:=aj RO i e.symm;exact ht (ar hi hc)
    exact⟨dg _ _ _ _ S9.ab (by decide),dg _ _ _ _ ((ZP.block _ (ai D)).trans D) (by decide),dg _ _ _ _ ((ZP.block _ (ai ZL)).trans ZL) (by decide)⟩
   have Lc:Hid ((A ZQ (J #[U nm] 9)).heap[w.heap.size]?=T (J #[N I 0,U ⟨#[]⟩,Z Y 0 0] 39 (0,0))):=(ZP.block _ (ai D)).trans D;have Ms:Hid ((A ZQ (J #[U nm] 9)).heap[s]?=T (J #[N I f,U tx,Z Y 0 0] 39 (0,0))):=(ZP.block _ (ai ZL)).trans ZL;have hbw:¬ hb=w.heap.size:=λe=>by have h:=S8.ab;unfold ShBox at h;rw[e] at h;exact absurd (ar h D) (by decide)
   have DS:¬ w.heap.size=hb:=λe=>hbw e.symm;have MJ:¬ hb=s:=λe=>by have h:=S8.ab;unfold ShBox at h;rw[e] at h;exact absurd (ar h ZL) (by decide)
   have Nv:¬ s=hb:=λe=>MJ e.symm
   go_wp2_with (first
    |(at_builtin;refine bD _ rfl (.tmp 100) (.tmp 102) 30 rfl w0.heap.size 9 i1 (U ⟨#[]⟩) 1 16 IB ML MH Mk Mn rfl (by decide) (Z ao q co) q (bW (made.map (·.e))) (by simp[Act.eval]) RO.out (Q ZQ.heap.size 0 Y) 1 1 [U nm] (by simp[Act.eval]) rfl (pE ZQ _ _) (by simp[Value.oneCell']) (by unfold maxLen;omega) (by omega) Ln ?_;intro v9 w9 F r la;have O9:=ae F;have G9:=ae r;have Mf:=ae la;have ph:=ae (HG w9 r);obtain⟨g9,c9,Ov,rfl,My⟩:=F.2.resolve_left (λh=>by omega);clear My F r la;obtain⟨Nt,-,-,-,f3,-,-,-,-,-,ff⟩:=(ShBox.ad S9.ab ph.1).K;have Oe:=ff 3;obtain⟨rl,r0,r1,r2,rf⟩:=bv (ph.2.1.trans Lc);have MD:=rf 0;have Me:=rf 1;have MO:=rf 2;obtain⟨pl,p0,p1,p2,pf⟩:=bv (ph.2.2.trans Ms);clear ff rf pf)
    |fail)
   have Lb:=ae (S9.ord (x:=⟨nm,kd,0,te,0,[]⟩) (w':=w9) (v:=Z (T (Q g9 0 Y)) (q+1) c9) (by rw[<-HQ.out];exact G9) (by rw[<-HQ.out];exact O9) (by rw[<-HQ.out];exact Mf));refine bp (v:=ZH #[N I f,U tx,Z Y 0 0]) (by simp[results,TA,go_sem,r0,r1,r2]) rfl ?_;have La:=(qh w9 (Q hb 3 Y) (Z (T (Q g9 0 Y)) (q+1) c9) w.heap.size DS).trans (ph.2.1.trans Lc);refine⟨Z (T (Q l 0 Y)) (n+1) Fk,Z (T (Q g9 0 Y)) (q+1) c9,rfl,?_,?_⟩
   ·rw[<-HN.out]
    have x0:=Lb.1;rw[VN] at x0;replace x0:=x0.X La ⟨by decide,by decide,by decide,by decide⟩ B 0 (N I f);have y0:=ay La (j:=0) (N I f);have x1:=x0.X y0 ⟨by decide,by decide,by decide,by decide⟩ B 1 (U tx);exact x1.X (ay y0 (j:=1) (U tx)) ⟨by decide,by decide,by decide,by decide⟩ B 2 (Z Y 0 0)
   ·have k0:=(K8.to (KS.u (X:=XN) ZP ly S8.lt)).to Lb.2
    exact((k0.fresh ly B 0 _).fresh ly B 1 _).fresh ly B 2 _
 all_goals
  obtain⟨G,-,-,-,-,b4,b5,b6,b7,b8,bf⟩:=S5.ab.K;have LZ:=bf 4;have NW:=bf 5;have NQ:=bf 6;have NM:=bf 7;have Ok:=bf 8;rw[<-fd.out] at b4;clear bf;go_wp2_with fail;go_loop [9] (λi=>∃j:Nat,j<=ms/\i=N I j) (λi=>ms - (intOf i).toNat);case atStart=>exact⟨0,by omega,rfl⟩
  case' round =>
  obtain⟨j,hj,rfl⟩:=hrel;by_cases hlt:j<ms
  ·obtain⟨y,hy⟩:∃y,making[j]?=T y:=⟨_,gq (by have:=fd.out;omega)⟩
   obtain⟨gs,cs,cus,ev,-⟩:=S5.rst.2.resolve_left (λh=>by have:=fd.out;omega);rw[<-fd.out] at ev;cases ev
   have dj:O.cell? (Q gs j Y)=T (U y):=vP S5.rst hy;have hjm:(j:Int)<(ms:Int):=by omega
   have Nl:=ae (NZ j y hy);clear hy;have dg:=Nl.out;go_wp2;exact⟨⟨j+1,by omega,by go_num⟩,by simp[intOf];omega⟩
  obtain rfl:j=ms:=by omega
 ·have hI60:¬ (60:Int)<=(j:Int):=by omega
  clear b5 b6 b7 b8 NW NQ NM Ok;have A6:=ae ((q9 O).alloc ly (J #[U nm] 9));have P:=ae (S5.aa A6 ly);have RS:=ae (by have h:=P.rst;rw[<-fd.out] at h;exact h);have Mv:w0.heap.size<=(A O (J #[U nm] 9)).heap.size:=P.lt;obtain⟨q0,aa,ca,q1,-⟩:=(Ls.aa P.aq ly).2 tg qr;obtain⟨-,aa',ca',MZ,LI⟩:=Ls.2 tg qr;have Lt:=Ls.1;have e1:=(P.aq.cell (p:=(Q tb (M5+tg*2+1) Y)) Lt).trans MZ;rw[q1] at e1;simp only[OU,OJ,TM] at e1;obtain⟨rfl,rfl⟩:=e1;have NV:=ae LI;have Q1:=ae q1;clear q0 q1 MZ LI;have Mi:Hid ((A O (J #[U nm] 9)).heap[w.heap.size]?=T (J #[N I 0,U ⟨#[]⟩,Z Y 0 0] 39 (0,0))):=(A6.block _ (ai th)).trans th;have HG:Hid (∀H:M,(A O (J #[U nm] 9)).grownBy H (Value.slice Nh j Nn).ownBlock->H.heap[hb]?=(A O (J #[U nm] 9)).heap[hb]?/\H.heap[tb]?=(A O (J #[U nm] 9)).heap[tb]?):=λH hg=>by
   refine⟨hg.block hb (ai P.ab) λe=>?_,hg.block tb (lj Lt Mv) λe=>?_⟩;{obtain⟨_,_,LG,hc⟩:=aj RS hb e.symm;exact absurd (ar P.ab hc) (by decide)};{have:=(aj RS tb e.symm).1;omega}
  have Ob:w0.heap.size<=hb:=S5.hbB;have htbh:¬ tb=hb:=by omega
  have htbh':¬ hb=tb:=by omega
  have htI:(tg:Int)<(S.n1:Int):=by omega
  go_wp2_with (first
   |(at_builtin;refine bD _ rfl (.tmp 166) (.tmp 168) 30 rfl w0.heap.size 9 i1 (U ⟨#[]⟩) 1 16 IB ML MH Mk Mn rfl (by decide) (Z Nh j Nn) j (bW making) (by simp[Act.eval]) RS.out (Q O.heap.size 0 Y) 1 1 [U nm] (by simp[Act.eval]) rfl (pE O _ _) (by simp[Value.oneCell']) (by unfold maxLen;omega) (by omega) Mv ?_;intro v7 w7 F r la;have O7:=ae F;have G7:=ae r;have MW:=ae la;have Mb:=ae (HG w7 r);obtain⟨g7,c7,cu7,rfl,Oj⟩:=F.2.resolve_left (λh=>by omega);clear Oj F r la;obtain⟨MP,-,f1,-,-,f4,-,-,-,-,ff⟩:=(ShBox.ad P.ab Mb.1).K;have On:=ff 4;rw[N9.out] at f1;have f9:=(cq (a:=(Q tb (M5+tg*2+1) Y)) Mb.2).trans Q1.out;have Oo:tb<w7.heap.size:=(lj (lj Lt Ob) (QC MP));clear ff)
   |fail)
  have SP:=ae (P.push (nm:=nm) (w':=w7) (v:=Z (T (Q g7 0 Y)) (j+1) c7) (by rw[<-fd.out];exact G7) (by rw[<-fd.out];exact O7) (by rw[<-fd.out];exact MW));have S7:=ae SP.1;have K7:Hid (KS w0.heap.size XN w (w7.setCell (Q hb 4 Y) (Z (T (Q g7 0 Y)) (j+1) c7))):=(K5.to (KS.u (X:=XN) A6 ly S5.lt)).to SP.2;have ZR:Hid ((w7.setCell (Q hb 4 Y) (Z (T (Q g7 0 Y)) (j+1) c7)).heap[w.heap.size]?=T (J #[N I 0,U ⟨#[]⟩,Z Y 0 0] 39 (0,0))):=(SP.2.ad _ _ _ _ Mi (by decide) (by decide) (by decide) λh=>h).trans Mi;clear SP f1 f4 f9 On MP Oo O7 G7 MW Mb HG RS P A6 Mi Q1 S5 K5 th b4 LZ G;generalize World.setCell w7 _ _=W7 at S7 K7 ZR ⊢;refine(Mc W7 _ _ _ aa ca S7 NV).mono ?_;clear Mc;rintro e w8 Hx;rcases R with ⟨E,x⟩|c|d
  ·obtain⟨L1,md1,Om,st1,gx,cx,rfl,Le,ur,LH,Nu,Mt,n9⟩:=Hx;obtain⟨Nz,MM⟩:=Nd.out E x rfl;clear Nd;obtain⟨f,DE⟩:∃f,f=x.1.E:=⟨_,rfl⟩
   obtain⟨rt,MA⟩:∃rt,rt=x.1.B:=⟨_,rfl⟩
   obtain⟨ls,LP⟩:∃ls,ls=x.2:=⟨_,rfl⟩
   obtain⟨ln,Lz⟩:∃ln,ln=ls.length:=⟨_,rfl⟩
   have L9:nC nm tg (.inl (E,x))=.inl ((E++[⟨nm,3,f,rt,tg,ls⟩]),⟨nm,3,f,rt,tg,ls⟩):=by rw[DE,MA,LP];rfl
   have Nr:=ae L9;rw[<-LP,<-Lz] at LH;rw[<-DE,<-MA,<-LP,<-Lz];clear L9 DE MA LP;have Nw:=ae Lz;clear Lz;obtain⟨m1,Fd,DQ⟩:=Mt.nam n (gD nm) bt;replace DQ:m1.e=nm:=DQ;have Oq:Hid (m1.done=ZA):=by
    obtain⟨m2,Mz,e2,e3⟩:=ur.mkg nm (RH _ (nD.2 rfl));obtain⟨i2,Ma⟩:=RK Mz;have e4:=yF ur.nod Ma Fd (e2.trans DQ.symm);rw[e4,Fd] at Ma;cases Ma
    exact e3
   have bt:=ae Fd;obtain⟨ZO,hN⟩:∃ZO,ZO=L1.length:=⟨_,rfl⟩
   have aq:L1.length=ZO:=hN.symm;have hnN:n<ZO:=by rw[hN];exact(n8.1 Fd).1
   obtain⟨g,Ld,cum,rfl,-⟩:=Le.W.2.resolve_left (λh=>by omega);obtain⟨gp,ZN,cup,rfl,Np⟩:=Le.rst.2.resolve_left (λh=>by rw[cM,DW] at h;omega);have hcp:j+1<=ZN:=by have:=Np.2.2.1;rw[cM,DW,<-fd.out] at this;exact this
   rw[aq,cM,DW,<-fd.out] at Le;have KW:=ae (K7.to n9);have D:Hid (w8.heap[w.heap.size]?=T (J #[N I 0,U ⟨#[]⟩,Z Y 0 0] 39 (0,0))):=(n9.ad _ _ _ _ ZR (by decide) (by decide) (by decide) λh=>h).trans ZR;have Mj:w.heap.size<=W7.heap.size:=K7.aa.size;have X8:=ae (((LExt.add w.heap.size L (m:=gD nm) rfl).trans Mt Mj));have Oh:Hid (w.heap.size<=gx):=p7 Mj (aj LH gx rfl).1;have NJ:=ae (aB LH (p7 B Mj));have NI:=ae ur;have hw8:w.heap.size<=w8.heap.size:=KW.aa.size;have MQ:=ae Le;have Mx:=ae DQ;have Ny:=ae MM;clear Le ur LH Nu Mt n9 DQ Fd MM Np S7 K7 ZR hN;have ZP:=ae ((q9 w8).alloc ly (J #[N I f,U rt,Z Y 0 0] 39));have ZK:Hid ((A w8 (J #[N I f,U rt,Z Y 0 0] 39)).heap[w8.heap.size]?=T (J #[N I f,U rt,Z Y 0 0] 39 (0,0))):=nL _ _;have Lv:=ae (MQ.aa ZP ly);have K9:=ae (KS.u (X:=XN) ZP ly MQ.lt);have Lu:Hid ((A w8 (J #[N I f,U rt,Z Y 0 0] 39)).heap[w.heap.size]?=T (J #[N I 0,U ⟨#[]⟩,Z Y 0 0] 39 (0,0))):=(ZP.block _ (ai D)).trans D;go_upto_region 30 with fail;generalize World.alloc w8 _=W9 at ZP ZK Lv K9 Lu ⊢;obtain⟨s,Lh⟩:∃s,s=w8.heap.size:=⟨_,rfl⟩
   rw[<-Lh] at ZK ⊢;have Nx:w.heap.size<=s:=by omega
   clear Lh ZP MQ D;obtain⟨G,-,-,-,-,b4,-,-,-,b8,bf⟩:=Lv.ab.K;have LZ:=bf 4;clear bf;go_upto_region 32 with fail;have N1:IntKind.i64.wrap (j:Int)=(j:Int):=Kt (by omega) (by omega);have NP:(0:Int)<=(j:Int):=by omega
   have NN:(j:Int)<=(ZN:Int):=by omega
   refine aD (λV=>V.cell? (Q hb 4 Y)=T (Z (T (Q gp 0 Y)) (j+1) ZN)) 14 (by kernel_rfl) ?_;have HS:Hid (W9.drew.cell? (Q hb 4 Y)=T (Z (T (Q gp 0 Y)) (j+1) ZN)):=b4;iterate 10
    refine aJ 0 (v:=?_) rfl rfl (by kernel_rfl) (λ_ _ _ h=>h) rfl ?_ HS ?_;rotate_left
    ·(intro wz s0;go_simp)
     (try with_reducible rfl)
    (try simp only[Act.put,nzL])
   refine kG (i:=10) (v:=N I (j:Int)) rfl (by kernel_rfl) (by kernel_rfl) (by kernel_rfl) (by kernel_rfl) (λ_ _ _ h=>h) rfl ?_ HS ?_;{intro wz s0;go_simp}
   (try simp only[Act.put,nzL])
   refine kG (i:=11) (v:=Z (T (Q gp 0 Y)) j ZN) rfl (by kernel_rfl) (by kernel_rfl) (by kernel_rfl) (by kernel_rfl) (λ_ _ _ h=>h) rfl ?_ HS ?_;{intro wz s0;go_simp}
   (try simp only[Act.put,nzL])
   iterate 2
    refine cD 12 rfl rfl (by kernel_rfl) λK hK=>?_;go_simp;refine hK _ _ (λ_=>HS) ?_;clear hK K
    (try simp only[Act.put,nzL])
   have PP:Hid (SI w0 hb (Z a0 S.n0 c0) (Z a1 S.n1 c1) (W9.setCell (Q hb 4 Y) (Z (T (Q gp 0 Y)) j ZN)) making E L1 (Z (T (Q g 0 Y)) ZO Ld) Om (Z (T (Q gp 0 Y)) j ZN)/\KS w0.heap.size XN W9 (W9.setCell (Q hb 4 Y) (Z (T (Q gp 0 Y)) j ZN))):=by have h:=Lv.out;rw[fd.out] at h ⊢;exact h.pop
   refine ah (i:=14) rfl (by kernel_rfl) λK hK=>?_;go_simp;refine hK _ _ (λh=>absurd rfl h) ?_;clear hK K HS b4 LZ b8
   (try simp only[Act.put])
   refine aX (by kernel_rfl) ?_ _;have D6:Hid (Below (W9.setCell (Q hb 4 Y) (Z (T (Q gp 0 Y)) j ZN)).heap.size (W9.setCell (Q hb 4 Y) (Z (T (Q gp 0 Y)) j ZN)) (W9.setCell (Q hb 4 Y) (Z (T (Q gp 0 Y)) j ZN)).drew):=br.drew;have P:=ae (PP.1.aa D6 ly);have K6:=ae ((K9.to PP.2).to (KS.u (X:=XN) D6 ly PP.1.lt));have ro:Hid ((W9.setCell (Q hb 4 Y) (Z (T (Q gp 0 Y)) j ZN)).drew.heap[w.heap.size]?=T (J #[N I 0,U ⟨#[]⟩,Z Y 0 0] 39 (0,0))):=(PP.2.ad _ _ _ _ Lu (by decide) (by decide) (by decide) λh=>h).trans Lu;have MC:Hid ((W9.setCell (Q hb 4 Y) (Z (T (Q gp 0 Y)) j ZN)).drew.heap[s]?=T (J #[N I f,U rt,Z Y 0 0] 39 (0,0))):=(PP.2.ad _ _ _ _ ZK (by decide) (by decide) (by decide) λh=>h).trans ZK;clear PP D6 Lv K9 Lu ZK N1 NP NN G;generalize World.drew (World.setCell W9 _ _)=ZS at P K6 ro MC ⊢;have ZK:=ae MC.out;clear MC;go_upto_region 33 with fail;obtain⟨G,-,-,b2,-⟩:=P.ab.K;obtain⟨rl,r0,r1,r2,-⟩:=bv ZK;obtain⟨ND,NG,LG,Bk⟩:=aj P.W g rfl;have DH:=ae Bk;have R6:Hid (ZS.ownsRow w0.heap.size 198 6 (Z (T (Q g 0 Y)) ZO Ld) ZO (L1.flatMap smV)):=by have h:=P.W;rw[aq] at h;exact h
   have q1:ZS.cell? (Q g (n*6+1) Y)=T (N I m1.E):=cE (by rw[aq];exact R6) bt 1 (by omega) rfl;have q2:ZS.cell? (Q g (n*6+1+1) Y)=T (U m1.B):=cE (by rw[aq];exact R6) bt 2 (by omega) rfl;have q3:ZS.cell? (Q g (n*6+1+2) Y)=T (Z Y 0 0):=cE (by rw[aq];exact R6) bt 3 (by omega) rfl;have qf:∀j,ZS.frozen? (Q g j Y)=ZA:=λj=>by simp[World.frozen?,Bk]
   have MF:=qf (n*6+1);have Mh:=qf (n*6+1+1);have LU:=qf (n*6+1+2);clear qf Bk;have NT:(n:Int)<(ZO:Int):=by omega
   have ld:g≠hb:=by intro e;have h:=DH.out;rw[e] at h;exact absurd (ar h P.ab) (by decide)
   have o:g≠s:=by intro e;have h:=DH.out;rw[e] at h;exact absurd (ar h ZK) (by decide)
   refine wp_region_held_drew (S:=λV=>V.cell? (Q hb 2 Y)=T (Z (T (Q g 0 Y)) ZO Ld)/\V.cell? (Q s 0 Y)=T (N I f)/\V.cell? (Q s 1 Y)=T (U rt)/\V.cell? (Q s 2 Y)=T (Z Y 0 0)) (by kernel_rfl) ⟨b2,r0,r1,r2⟩ λhS=>?_;have HS:=ae hS;clear hS;iterate 8
    first|refine bI 0 (v:=?_) rfl rfl (by kernel_rfl) (λ_ _ _ h=>h) rfl ?_ HS ?_|refine bI 4 (v:=?_) rfl rfl (by kernel_rfl) (λ_ _ _ h=>h) rfl ?_ HS ?_
    rotate_left
    ·(rintro wz ⟨s0,s1,s2,s3⟩;go_simp)
     (try with_reducible rfl)
    (try simp only[Act.put,nzL])
   have TL:=ae (P.told aq bt Oq f rt);have Lf:Hid ((((ZS.setCell (Q g (n*6+1) Y) (N I f)).setCell (Q g (n*6+1+1) Y) (U rt)).setCell (Q g (n*6+1+2) Y) (Z Y 0 0)).drew.cell? (Q hb 2 Y)=T (Z (T (Q g 0 Y)) ZO Ld)/\(((ZS.setCell (Q g (n*6+1) Y) (N I f)).setCell (Q g (n*6+1+1) Y) (U rt)).setCell (Q g (n*6+1+2) Y) (Z Y 0 0)).drew.cell? (Q s 0 Y)=T (N I f)/\(((ZS.setCell (Q g (n*6+1) Y) (N I f)).setCell (Q g (n*6+1+1) Y) (U rt)).setCell (Q g (n*6+1+2) Y) (Z Y 0 0)).drew.cell? (Q s 1 Y)=T (U rt)/\(((ZS.setCell (Q g (n*6+1) Y) (N I f)).setCell (Q g (n*6+1+1) Y) (U rt)).setCell (Q g (n*6+1+2) Y) (Z Y 0 0)).drew.cell? (Q s 2 Y)=T (Z Y 0 0)) :=
    ⟨(cell_far _ _ _ _ ld).trans ((cell_far _ _ _ _ ld).trans ((cell_far _ _ _ _ ld).trans b2)),(cell_far _ _ _ _ o).trans ((cell_far _ _ _ _ o).trans ((cell_far _ _ _ _ o).trans r0)),(cell_far _ _ _ _ o).trans ((cell_far _ _ _ _ o).trans ((cell_far _ _ _ _ o).trans r1)),(cell_far _ _ _ _ o).trans ((cell_far _ _ _ _ o).trans ((cell_far _ _ _ _ o).trans r2))⟩
   refine aS (i:=8) rfl (by kernel_rfl) λK hK=>?_;go_simp;refine hK _ _ Lf ?_;clear hK K HS q1 q2 q3 MF Mh LU b2 r0 r1 r2 rl
   (try simp only[Act.put])
   refine wpAnyH_done (by kernel_rfl) ?_ _;have D7:Hid (Below (((ZS.setCell (Q g (n*6+1) Y) (N I f)).setCell (Q g (n*6+1+1) Y) (U rt)).setCell (Q g (n*6+1+2) Y) (Z Y 0 0)).heap.size (((ZS.setCell (Q g (n*6+1) Y) (N I f)).setCell (Q g (n*6+1+1) Y) (U rt)).setCell (Q g (n*6+1+2) Y) (Z Y 0 0)) (((ZS.setCell (Q g (n*6+1) Y) (N I f)).setCell (Q g (n*6+1+1) Y) (U rt)).setCell (Q g (n*6+1+2) Y) (Z Y 0 0)).drew):=br.drew;have S7:=ae (TL.1.aa D7 ly);have K7:=ae (K6.to (TL.2.1.to (KS.u (X:=XN) D7 ly TL.1.lt)));have Lm:=TL.2.2.1;have Ll:=TL.2.2.2;have ZR:Hid ((((ZS.setCell (Q g (n*6+1) Y) (N I f)).setCell (Q g (n*6+1+1) Y) (U rt)).setCell (Q g (n*6+1+2) Y) (Z Y 0 0)).drew.heap[w.heap.size]?=T (J #[N I 0,U ⟨#[]⟩,Z Y 0 0] 39 (0,0))):=by have ZM:=(TL.2.1.ad _ _ _ _ ro (by decide) (by decide) (by decide) λh=>h).trans ro;exact ZM
   have mv:Hid ((((ZS.setCell (Q g (n*6+1) Y) (N I f)).setCell (Q g (n*6+1+1) Y) (U rt)).setCell (Q g (n*6+1+2) Y) (Z Y 0 0)).drew.heap[s]?=T (J #[N I f,U rt,Z Y 0 0] 39 (0,0))):=by have ZM:=(TL.2.1.ad _ _ _ _ ZK (by decide) (by decide) (by decide) λh=>h).trans ZK;exact ZM
   have Fm:=ae Lm;have Fn:=ae Ll;clear TL Lf Lm Ll ro ZK K6 P R6 DH D7;generalize World.drew (World.setCell (World.setCell (World.setCell ZS _ _) _ _) _ _)=W7 at S7 K7 ZR mv ⊢;have OS:=ae NJ.out;obtain⟨G,-,-,b2,-⟩:=S7.ab.K;obtain⟨LJ,LQ,Nj,sm⟩:=aj S7.W g rfl;have q4:W7.cell? (Q g (n*6+4) Y)=T m1.sv:=cE (by have h:=S7.W;rw[Fn.out] at h ⊢;exact h) Fm 4 (by omega) rfl;have Oa:W7.frozen? (Q g (n*6+4) Y)=ZA:=by simp[World.frozen?,sm]
   have ZJ:=ae (S7.upd' Fn Fm (j:=4) (by omega) (u:=Z (T (Q gx 0 Y)) ln cx) (m':=⟨m1.e,f,rt,ls,Z (T (Q gx 0 Y)) ln cx,ZA⟩) rfl (λh=>by cases h));have KV:Hid ((W7.setCell (Q g (n*6+4) Y) (Z (T (Q gx 0 Y)) ln cx)).heap[w.heap.size]?=T (J #[N I 0,U ⟨#[]⟩,Z Y 0 0] 39 (0,0))):=(ZJ.2.1.ad _ _ _ _ ZR (by decide) (by decide) (by decide) λh=>h).trans ZR;have KZ:Hid ((W7.setCell (Q g (n*6+4) Y) (Z (T (Q gx 0 Y)) ln cx)).heap[s]?=T (J #[N I f,U rt,Z Y 0 0] 39 (0,0))):=(ZJ.2.1.ad _ _ _ _ mv (by decide) (by decide) (by decide) λh=>h).trans mv;have GS:=ae ZJ.1;have Ly:=ae (K7.to ZJ.2.1);have MG:=ae ZJ.2.2.1;have LV:=ae ZJ.2.2.2;clear sm;go_upto_region 35 with fail;clear b2 q4 Oa ZJ S7 K7 ZR mv Fm Fn;generalize World.setCell W7 _ _=Lg at GS Ly KV KZ ⊢;have NK:=ae (JQ OS Ly);obtain⟨G,-,-,b2,-⟩:=GS.ab.K;obtain⟨LJ,LQ,Nj,sm⟩:=aj GS.W g rfl;have q5:Lg.cell? (Q g (n*6+5) Y)=T (ZD ZA):=cE (by have h:=GS.W;rw[LV.out] at h ⊢;exact h) MG 5 (by omega) rfl;have Md:Lg.frozen? (Q g (n*6+5) Y)=ZA:=by simp[World.frozen?,sm]
   have ZJ:=ae (GS.upd' LV MG (j:=5) (by omega) (u:=ZD ZG) (m':=⟨m1.e,f,rt,ls,Z (T (Q gx 0 Y)) ln cx,ZG⟩) rfl (λ_=>(by rw[<-Nw.out];exact NK)));have D:Hid ((Lg.setCell (Q g (n*6+5) Y) (ZD ZG)).heap[w.heap.size]?=T (J #[N I 0,U ⟨#[]⟩,Z Y 0 0] 39 (0,0))):=(ZJ.2.1.ad _ _ _ _ KV (by decide) (by decide) (by decide) λh=>h).trans KV;have ZL:Hid ((Lg.setCell (Q g (n*6+5) Y) (ZD ZG)).heap[s]?=T (J #[N I f,U rt,Z Y 0 0] 39 (0,0))):=(ZJ.2.1.ad _ _ _ _ KZ (by decide) (by decide) (by decide) λh=>h).trans KZ;have S8:=ae ZJ.1;have K8:=ae (Ly.to ZJ.2.1);clear sm;go_upto_region 36 with fail;clear b2 q5 Md ZJ GS Ly KV KZ;generalize World.setCell Lg _ _=ZQ at S8 K8 D ZL ⊢;obtain⟨ao,co,rfl⟩:=j7 S8.ror;obtain⟨q,hq⟩:∃q,q=E.length:=⟨_,rfl⟩
   have HQ:=ae hq;rw[<-hq] at Nz;clear hq;obtain⟨G,-,-,-,b3,-⟩:=S8.ab.K;rw[<-HQ.out] at b3;have ZP:=ae ((q9 ZQ).alloc ly (J #[U nm] 9));have S9:=ae (S8.aa ZP ly);have RO:Hid ((A ZQ (J #[U nm] 9)).ownsRow w0.heap.size 9 1 (Z ao q co) q (bW (E.map (·.e)))):=by have h:=S9.ror;rw[<-HQ.out] at h;exact h
   have Ln:w0.heap.size<=(A ZQ (J #[U nm] 9)).heap.size:=S9.lt;have HG:Hid (∀H:M,(A ZQ (J #[U nm] 9)).grownBy H (Value.slice ao q co).ownBlock->H.heap[hb]?=(A ZQ (J #[U nm] 9)).heap[hb]?/\H.heap[w.heap.size]?=(A ZQ (J #[U nm] 9)).heap[w.heap.size]?/\H.heap[s]?=(A ZQ (J #[U nm] 9)).heap[s]?):=λH hg=>by
    have dg:∀(i:Nat) (cs:Array ZC) (t:ZI) (fz:Nat × Nat),(A ZQ (J #[U nm] 9)).heap[i]?=T (Obj.cells cs t fz)->t≠9->H.heap[i]?=(A ZQ (J #[U nm] 9)).heap[i]?:=λi cs t fz hi ht=>hg.block i (ai hi) λe=>by obtain⟨_,_,LG,hc⟩:=aj RO i e.symm;exact ht (ar hi hc)
    exact⟨dg _ _ _ _ S9.ab (by decide),dg _ _ _ _ ((ZP.block _ (ai D)).trans D) (by decide),dg _ _ _ _ ((ZP.block _ (ai ZL)).trans ZL) (by decide)⟩
   have Lc:Hid ((A ZQ (J #[U nm] 9)).heap[w.heap.size]?=T (J #[N I 0,U ⟨#[]⟩,Z Y 0 0] 39 (0,0))):=(ZP.block _ (ai D)).trans D;have Ms:Hid ((A ZQ (J #[U nm] 9)).heap[s]?=T (J #[N I f,U rt,Z Y 0 0] 39 (0,0))):=(ZP.block _ (ai ZL)).trans ZL;have hbw:¬ hb=w.heap.size:=λe=>by have h:=S8.ab;unfold ShBox at h;rw[e] at h;exact absurd (ar h D) (by decide)
   have DS:¬ w.heap.size=hb:=λe=>hbw e.symm;have MJ:¬ hb=s:=λe=>by have h:=S8.ab;unfold ShBox at h;rw[e] at h;exact absurd (ar h ZL) (by decide)
   have Nv:¬ s=hb:=λe=>MJ e.symm
   go_wp2_with (first
    |(at_builtin;refine bD _ rfl (.tmp 235) (.tmp 237) 30 rfl w0.heap.size 9 i1 (U ⟨#[]⟩) 1 16 IB ML MH Mk Mn rfl (by decide) (Z ao q co) q (bW (E.map (·.e))) (by simp[Act.eval]) RO.out (Q ZQ.heap.size 0 Y) 1 1 [U nm] (by simp[Act.eval]) rfl (pE ZQ _ _) (by simp[Value.oneCell']) (by unfold maxLen;omega) (by omega) Ln ?_;intro v9 w9 F r la;have O9:=ae F;have G9:=ae r;have Mf:=ae la;have ph:=ae (HG w9 r);obtain⟨g9,c9,Ov,rfl,My⟩:=F.2.resolve_left (λh=>by omega);clear My F r la;obtain⟨Nt,-,-,-,f3,-,-,-,-,-,ff⟩:=(ShBox.ad S9.ab ph.1).K;have Oe:=ff 3;obtain⟨rl,r0,r1,r2,rf⟩:=bv (ph.2.1.trans Lc);have MD:=rf 0;have Me:=rf 1;have MO:=rf 2;obtain⟨pl,p0,p1,p2,pf⟩:=bv (ph.2.2.trans Ms);clear ff rf pf)
    |fail)
   have Lb:=ae (S9.ord (x:=⟨nm,3,f,rt,tg,ls⟩) (w':=w9) (v:=Z (T (Q g9 0 Y)) (q+1) c9) (by rw[<-HQ.out];exact G9) (by rw[<-HQ.out];exact O9) (by rw[<-HQ.out];exact Mf));refine bp (v:=ZH #[N I f,U rt,Z Y 0 0]) (by simp[results,TA,go_sem,r0,r1,r2]) rfl ?_;have La:=(qh w9 (Q hb 3 Y) (Z (T (Q g9 0 Y)) (q+1) c9) w.heap.size DS).trans (ph.2.1.trans Lc);rw[Nr.out];refine⟨L1.set n ⟨m1.e,f,rt,ls,Z (T (Q gx 0 Y)) ln cx,ZG⟩,Z (T (Q g 0 Y)) ZO Ld,Z (T (Q g9 0 Y)) (q+1) c9,Z (T (Q gp 0 Y)) j ZN,rfl,?_,yG NI bt Mx Mx rfl rfl rfl rfl rfl Ny HI,X8.set bt rfl (λk e=>by cases e;exact Oh),?_⟩;{have x0:=Lb.1;rw[VN,VN] at x0;replace x0:=x0.X La ⟨by decide,by decide,by decide,by decide⟩ B 0 (N I f);have y0:=ay La (j:=0) (N I f);have x1:=x0.X y0 ⟨by decide,by decide,by decide,by decide⟩ B 1 (U rt);exact x1.X (ay y0 (j:=1) (U rt)) ⟨by decide,by decide,by decide,by decide⟩ B 2 (Z Y 0 0)};{have k0:=((KW.to K8).to (KS.u (X:=XN) ZP ly S8.lt)).to Lb.2;exact((k0.fresh ly B 0 _).fresh ly B 1 _).fresh ly B 2 _}
  focus
   obtain⟨a,k,sv,rfl,⟨s0,s1,Od,NY,Oc,JT,Id⟩,n9⟩:=Hx
  rotate_left;focus
   obtain⟨sv,rfl,⟨s0,s1,Od,NY,Oc,JT,Id⟩,n9⟩:=Hx
  all_goals
   unfold js;first|unfold jB|unfold jC
   dsimp only;go_upto_region 30 with fail;generalize hW:World.alloc w8 _=W9;obtain⟨ZP,-,-⟩:=nb1 hW;have K8:=ae ((K7.to n9).to (KS.u (X:=XN) ZP ly (p7 B (K7.to n9).aa.size)));have Mr:=ae (ShBox.ad JT (ZP.block _ (ai JT)));have Ng:=ae (own_below Id ZP ly);have D:Hid (W9.heap[w.heap.size]?=T (J #[N I 0,U ⟨#[]⟩,Z Y 0 0] 39 (0,0))):=by have ZM:=(n9.ad _ _ _ _ ZR (by decide) (by decide) (by decide) λh=>h).trans ZR;exact(ZP.block _ (ai ZM)).trans ZM
   clear n9 JT Id ZP hW;obtain⟨G,-,-,-,-,-,b5,b6,b7,b8,-⟩:=Mr.K;have hbw:¬ hb=w.heap.size:=λe=>by have h:=Mr.out;unfold ShBox at h;rw[e] at h;exact absurd (ar h D) (by decide)
   have DS:¬ w.heap.size=hb:=λe=>hbw e.symm;obtain⟨rl,r0,r1,r2,rf⟩:=bv D;have MD:=rf 0;have Me:=rf 1;have MO:=rf 2;clear rf;first|simp only[jB] at b5 b6 b7|simp only[jC] at b5 b6 b7
   go_wp2_with fail;have Ml:=JP Ng.out D.out (by decide);first|refine bp (v:=ZH #[N I 6,U ⟨#[]⟩,Z a c.length k]) (by simp[results,TA,go_sem,r0,r1,r2]) rfl ⟨a,k,rfl,?_⟩|refine bp (v:=ZH #[N I 7,U d,Z Y 0 0]) (by simp[results,TA,go_sem,r0,r1,r2]) rfl ⟨rfl,?_⟩
   refine⟨⟨_,_,_,_,_,(qh _ _ _ _ hbw).trans ((qh _ _ _ _ hbw).trans ((qh _ _ _ _ hbw).trans Mr)),?_⟩,?_⟩
   ·exact aA (aA (aA Ng Ml _ _) Ml _ _) Ml _ _
   ·exact((K8.fresh ly B 0 _).fresh ly B 1 _).fresh ly B 2 _
 ·have MS:j=60:=Lo;subst MS;have hbw:¬ hb=w.heap.size:=λe=>by have h:=S5.ab;unfold ShBox at h;rw[e] at h;exact absurd (ar h th) (by decide)
  have DS:¬ w.heap.size=hb:=λe=>hbw e.symm;obtain⟨rl,r0,r1,r2,rf⟩:=bv th;have MD:=rf 0;have Me:=rf 1;have MO:=rf 2;clear rf;go_wp2_with fail;refine bp (v:=ZH #[N I 7,U nm,Z Y 0 0]) (by simp[results,TA,go_sem,r0,r1,r2]) rfl ?_;have Nq:=ay S5.ab (j:=8) (ZD ZG);have Na:=ay Nq (j:=5) (N I 7);have Nb:=ay Na (j:=6) (U nm);have Oi:=ay Nb (j:=7) (Z Y 0 0);have Lx:w0.heap.size<=hb:=S5.hbB;have k8:=(((K5.to (KS.setCell (X:=XN) _ Lx (.inr λcs t fz hc=>.inr (.inr (ar hc S5.ab))) (ZD ZG) (j:=8))).to (KS.setCell (X:=XN) _ Lx (.inr λcs t fz hc=>.inr (.inr (ar hc Nq))) (N I 7) (j:=5))).to (KS.setCell (X:=XN) _ Lx (.inr λcs t fz hc=>.inr (.inr (ar hc Na))) (U nm) (j:=6))).to (KS.setCell (X:=XN) _ Lx (.inr λcs t fz hc=>.inr (.inr (ar hc Nb))) (Z Y 0 0) (j:=7));refine⟨rfl,⟨_,_,_,_,_,(qh _ _ _ _ hbw).trans ((qh _ _ _ _ hbw).trans ((qh _ _ _ _ hbw).trans Oi)),⟨rfl,.inl ⟨rfl,rfl⟩⟩⟩,?_⟩;exact((k8.fresh ly B 0 _).fresh ly B 1 _).fresh ly B 2 _
end
section
variable {w0:M}{S:Spc}{a0 a1:Option Addr}{c0 c1 hb:Nat}
theorem vQ{making:List ByteArray}{made:List Ent}(h:fH L making made)(f:∀m∈L,m.e≠nm)(g:cL made nm=Y)(h1:atL making nm=Y)(b:m'.e=nm)(o:m'.done=ZG)(p:x.e=nm)(i:m'.E=(dS x).E)(l:m'.B=(dS x).B)(r:m'.c=x.looks)(q:m'.sv=Z Y 0 0)(n:Nat):fH ((L++[gD nm]).set L.length m') making (made++[x])/\LExt n L ((L++[gD nm]).set L.length m'):=by
 have c:(L++[gD nm])[L.length]?=T (gD nm):=by rw[IX ly,Nat.sub_self];rfl
 refine⟨yG (sZ h f (m:=gD nm) rfl rfl) c rfl b p o i l r (iq g) h1,(LExt.add n L (m:=gD nm) rfl).set c b λj e=>?_⟩;rw[q] at e;cases e
theorem F7 (C:pz w0 S a0 a1):∀n,nH w0 S hb (Z a0 S.n0 c0) (Z a1 S.n1 c1) n:=by
 have u:∀n,(∀m,n=m+1->nH w0 S hb (Z a0 S.n0 c0) (Z a1 S.n1 c1) m)->nH w0 S hb (Z a0 S.n0 c0) (Z a1 S.n1 c1) n:=by
  intro n z making made L md or st w nm ZS h hrel F c s hn;have hmade:made.length<=50000:=by unfold fj at c;omega
  have b:L.length<=100000:=by have:=hrel.len;omega
  rw[Fu];unfold fW;cases h0:cL made nm with
  |some e =>obtain⟨k,m,f1,D,y,B,G⟩:=IJ hrel h0;refine(FZ w nm h b k m f1 D y).mono ?_;rintro r w' ⟨rfl,j,o⟩;exact⟨L,md,or,st,by rw[B,G],j,hrel,LExt.refl _ _,o⟩
  |none =>
   cases h1:atL making nm with
   |some i =>
    obtain⟨k,m,f1,D,y,B⟩:=IK hrel h1;have E:=s nm B;cases h2:atI (nm1 S.f1) S.n1 nm with
    |none=>rw[h2] at E;cases E
    |some tg=>exact xA C w nm h b (by omega) k m f1 D y tg i h2 h1
   |none =>
    obtain⟨p,q⟩:=Dp hrel h0 h1;dsimp only;unfold jZ;cases h2:atI (nm0 S.f0) S.n0 nm with
    |some i =>refine(mH.1 C w nm h b (by omega) p (oN C.ok h2) 0 (S.f0 i).B (.inr ⟨i,h2,rfl,rfl⟩) 1 (S.f0 i).B).mono ?_;rintro r w' ⟨l,f,rfl,j,o⟩;have g:=vQ hrel q h0 h1 (m':=⟨nm,0,(S.f0 i).B,[],Z Y 0 0,ZG⟩) (x:=⟨nm,1,0,(S.f0 i).B,0,[]⟩) rfl rfl rfl rfl rfl rfl rfl w.heap.size;exact⟨_,l,f,st,rfl,j,g.1,g.2,o⟩
    |none =>
     cases h3:atI (nm1 S.f1) S.n1 nm with
     |some t =>
      cases n with
      |zero=>exact mH.2 C w nm h b p h1 t h3 _ (.inl ⟨by omega,rfl⟩)
      |succ m=>exact mH.2 C w nm h b p h1 t h3 _ (.inr ⟨m,ZS,z m rfl,hrel,F,c,s,h0,rfl⟩)
     |none =>refine(mH.1 C w nm h b (by omega) p h3 4 nm (.inl ⟨h2,rfl,rfl⟩) 2 ⟨#[]⟩).mono ?_;rintro r w' ⟨l,f,rfl,j,o⟩;have g:=vQ hrel q h0 h1 (m':=⟨nm,4,nm,[],Z Y 0 0,ZG⟩) (x:=⟨nm,2,0,⟨#[]⟩,0,[]⟩) rfl rfl rfl rfl rfl rfl rfl w.heap.size;exact⟨_,l,f,st,rfl,j,g.1,g.2,o⟩
 intro n;induction n with
 |zero=>exact u 0 λm e=>by omega
 |succ n H=>exact u (n+1) λm e=>by cases e;exact H
end
