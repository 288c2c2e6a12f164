import Derived.Test.YtcnilonhfpimnaaGreatDoorEM
import Derived.WalkSmall
set_option linter.all false
set_option maxRecDepth 1000000
set_option maxHeartbeats 16000000
open Go renaming Addr.mk->T,Value.slice->Z,Value.string->U,Value.int->J,Value.bool->ZF,Value.agg->ZJ,Obj.cells->N,IntKind.i64->I,World->E,Value->ZB,TypeId->ZK,Ending.returned->ZI,World.heap->A,World.ownsRow->ZY,World.alloc->ZV,World.cell?->ZW,World.frozen?->ZX,Proofs.Tryz.prog->Pg
open Option renaming none->Y,some->Q
open Bool renaming false->ZA,true->ZH
open Array renaming size->z
open List renaming length->ZU
namespace Go.Proofs.YtcnilonhfpimnaaGreatDoor.Vp
open Tryz RowKit
variable {m f m':SM}{n g j_ b j i size ZQ:Nat}{w:E}{nm:F_}{L:List SM}{e:ZK}{u:ZB}{x:k_}
def wj:∀(L:List SM) (k j:Nat) (m b:SM) (u:ZB),L[k]?=Q m->j<6->smV b=(smV m).set j u->(L.flatMap smV).set (k*6+j) u=(L.set k b).flatMap smV
 |[],k,j,m,b,u,h,_,_=>by simp at h
 |a::L,0,j,m,b,u,h,hj,he=>by simp only[List.getElem?_cons_zero,ND] at h;subst h;simp only[N9,List.set_cons_zero,UR,I5];rw[WW _ _ (by rw[oG];exact hj),he]
 |a::L,k+1,j,m,b,u,h,hj,he=>by simp only[VH] at h;simp only[N9,VA];rw[T9 _ _ (by rw[oG];omega),oG,show(k+1)*6+j - 6=k*6+j by omega,wj L k j m b u h hj he]
def Av{i:List ZB}(h:ZY w b e size (Z (Q (T g 0 Y)) n j_) n i)(u:ZB):(w.setCell (T g j Y) u).ownsRow b e size (Z (Q (T g 0 Y)) n j_) n (i.set j u):=by
 refine⟨by rw[NJ];exact h.1,?_⟩;rcases h.2 with⟨f,h0⟩|⟨g',cap',l,f,hb,m,h1,h2,p,o⟩
 {simp at f};{simp only[IS,ND,RP] at f;obtain⟨⟨rfl,-⟩,-,rfl⟩:=f;refine .inr ⟨g,j_,l.setIfInBounds j u,rfl,hb,aw m u,h1,h2,by simpa using p,?_⟩;rw[R8,YV,o]}
section
variable {w0 w w':E}{hb:Nat}{s0 s1 md or st:ZB}{y_:List F_}{q_:List k_}{L:List SM}
def SI.upd{k:Nat}(h:SI w0 hb s0 s1 w y_ q_ L (Z (Q (T g 0 Y)) (ZU L) j_) or st)(H:L[k]?=Q m)(G:j<6)(D:smV f=(smV m).set j u)(ZT:f.done=ZH->w.ownsRow (z (A w0)) 191 3 f.sv (ZU f.V) (eG f.V)):SI w0 hb s0 s1 (w.setCell (T g (k*6+j) Y) u) y_ q_ (L.set k f) (Z (Q (T g 0 Y)) (L.set k f).length j_) or st/\KS (z (A w0)) XN w (w.setCell (T g (k*6+j) Y) u):=by
 obtain⟨l,hgl,cs,q⟩:=af h.X g rfl
 have b:∀{size n:Nat} {o:ZK} {C:ZB} {y:List ZB},w.ownsRow (z (A w0)) o size C n y->188≠o->(w.setCell (T g (k*6+j) Y) u).ownsRow (z (A w0)) o size C n y:=λB r=>aB B (λe=>by
  obtain⟨_,_,s,i⟩:=af B g e
  exact r (ar q i)) _ _
 have ZZ:(L.set k f).length=ZU L:=NJ;refine⟨⟨h.ak.setCell l u,h.hbB,?_,?_,b h.ror (by decide),b h.rst (by decide),h.apart,λx p Z8=>?_⟩,KS.setCell w l (.inr λs t fz i=>.inr (.inl (ar i q))) u⟩
 ·rw[ZZ]
  exact h.ab.ad (qh _ _ _ _ λe=>by
   have ZS:hb=g:=e
   exact absurd (ar h.ab (ZS ▸ q)) (by decide))
 {rw[ZZ,<-wj L k j m f u H G D];exact Av h.X u};{rcases OR p with p|rfl;{exact b (h.V x p Z8) (by decide)};{exact b (ZT Z8) (by decide)}}
def SI.grow{ZP:ZK}{sz m:Nat}{v:ZB}{ZS g:List ZB}(h:SI w0 hb s0 s1 w y_ q_ L md or st)(M:ZY w (z (A w0)) ZP sz u n ZS)(G:ZP=9\/ZP=188)(C:w.grownBy w' u.ownBlock)(ZT:ZY w' (z (A w0)) ZP sz v m g):ShBox w' hb s0 s1 md or st 0 ⟨#[]⟩ (Z Y 0 0) ZA/\(∀{size n:Nat} {q:ZK} {s:ZB} {g:List ZB},ZY w (z (A w0)) q size s n g->(q≠ZP\/∀k,s.ownBlock=Q k->u.ownBlock≠Q k)->141≠q->(w'.setCell (T hb j Y) v).ownsRow (z (A w0)) q size s n g)/\(w'.setCell (T hb j Y) v).ownsRow (z (A w0)) ZP sz v m g/\KS (z (A w0)) XN w (w'.setCell (T hb j Y) v):=by
 have x:=af M;have Z8:141≠ZP:=by rcases G with rfl|rfl<;>decide
 have ZQ:KS (z (A w0)) XN w w':=KS.of_grown C h.lt λj K=>by obtain⟨h1,_,l,h2⟩:=x j K;exact⟨h1,.inr λl t fz p=>by rw[ar p h2];exact G.imp id .inl⟩
 have o:∀(i:Nat) (l:Array ZB) (t:ZK) (fz:Nat × Nat),w.heap[i]?=Q (Obj.cells l t fz)->t≠ZP->w'.heap[i]?=w.heap[i]?:=λi l t fz hi ZR=>C.p i (ah hi) λe=>by obtain⟨_,_,B,h2⟩:=x i e.c;exact ZR (ar hi h2)
 have b:ShBox w' hb s0 s1 md or st 0 ⟨#[]⟩ (Z Y 0 0) ZA:=h.ab.ad (o _ _ _ _ h.ab Z8);refine⟨b,λ{size n q s g} ZZ f H=>?_,aB ZT (λe=>?_) _ _,ZQ.to (KS.setCell w' h.hbB (.inr λl t fz p=>.inr (.inr (ar p b))) v)⟩
 ·have D:=b9 (w':=w') ZZ λk y=>by
   obtain⟨_,O,l,p⟩:=af ZZ k y;rcases f with f|f;{exact o _ _ _ _ p f};{exact C.p k O λe=>f k y e.c}
  exact aB D (λe=>by
   obtain⟨_,_,B,r⟩:=af D hb e
   exact H (ar b r)) _ _
 {obtain⟨_,_,B,r⟩:=af ZT hb e;exact Z8 (ar b r)}
def SI.addL{v:ZB}(h:SI w0 hb s0 s1 w y_ q_ L md or st)(o:w.grownBy w' md.ownBlock)(q:w'.ownsRow (z (A w0)) 188 6 v (ZU L+1) (L.flatMap smV++smV m))(p:m.done=ZA):SI w0 hb s0 s1 (w'.setCell (T hb 2 Y) v) y_ q_ (L++[m]) v or st/\KS (z (A w0)) XN w (w'.setCell (T hb 2 Y) v):=by
 obtain⟨i,b,l,n⟩:=h.grow (j:=2) h.X (.inr rfl) o q;refine⟨⟨h.ak.k n.aa,h.hbB,aw i v,(by rw[cM,AI,KE,List.flatMap_singleton];exact l),b h.ror (.inl (by decide)) (by decide),b h.rst (.inl (by decide)) (by decide),h.apart,λx g f=>?_⟩,n⟩;rcases p8.1 g with g|g;{exact b (h.V x g f) (.inl (by decide)) (by decide)};{rw[j4.1 g,p] at f;cases f}
def SI.ord{v:ZB}(h:SI w0 hb s0 s1 w y_ q_ L md or st)(p:w.grownBy w' or.ownBlock)(q:w'.ownsRow (z (A w0)) 9 1 v (ZU q_+1) (bO (q_.map (·.e))++[U x.e]))(m:v.ownBlock=or.ownBlock\/v.ownBlock=Q (z (A w))):SI w0 hb s0 s1 (w'.setCell (T hb 3 Y) v) y_ (q_++[x]) L md v st/\KS (z (A w0)) XN w (w'.setCell (T hb 3 Y) v):=by
 obtain⟨g,b,i,l⟩:=h.grow (j:=3) h.ror (.inl rfl) p q;refine⟨⟨h.ak.k l.aa,h.hbB,aw g v,b h.X (.inl (by decide)) (by decide),(by rw[cM,AI];simpa[bO] using i),?_,λk f=>?_,λx r n=>b (h.V x r n) (.inl (by decide)) (by decide)⟩,l⟩;{exact b h.rst (.inr λk o e=>h.apart k e o) (by decide)}
 ·intro e;rcases m with a|a;{exact h.apart k (by rw[<-a];exact f) e}
  ·rw[a] at f;cases f
   have:=(af h.rst _ e).2.1;omega
def SI.push{v:ZB}(h:SI w0 hb s0 s1 w y_ q_ L md or st)(p:w.grownBy w' st.ownBlock)(q:w'.ownsRow (z (A w0)) 9 1 v (ZU y_+1) (bO y_++[U nm]))(m:v.ownBlock=st.ownBlock\/v.ownBlock=Q (z (A w))):SI w0 hb s0 s1 (w'.setCell (T hb 4 Y) v) (y_++[nm]) q_ L md or v/\KS (z (A w0)) XN w (w'.setCell (T hb 4 Y) v):=by
 obtain⟨g,b,i,l⟩:=h.grow (j:=4) h.rst (.inl rfl) p q;refine⟨⟨h.ak.k l.aa,h.hbB,aw g v,b h.X (.inl (by decide)) (by decide),?_,(by rw[cM,AI];simpa[bO] using i),λk f=>?_,λx r n=>b (h.V x r n) (.inl (by decide)) (by decide)⟩,l⟩;{exact b h.ror (.inr λk o e=>h.apart k o e) (by decide)}
 ·intro e;rcases m with a|a;{exact h.apart k f (by rw[<-a];exact e)}
  ·rw[a] at e;cases e
   have:=(af h.ror _ f).2.1;omega
def SI.pop (h:SI w0 hb s0 s1 w (y_++[nm]) q_ L md or (Z (Q (T g 0 Y)) (ZU y_+1) j_)):SI w0 hb s0 s1 (w.setCell (T hb 4 Y) (Z (Q (T g 0 Y)) (ZU y_) j_)) y_ q_ L md or (Z (Q (T g 0 Y)) (ZU y_) j_)/\KS (z (A w0)) XN w (w.setCell (T hb 4 Y) (Z (Q (T g 0 Y)) (ZU y_) j_)):=by
 have b:∀{size n:Nat} {i:ZK} {m:ZB} {j:List ZB},w.ownsRow (z (A w0)) i size m n j->141≠i->(w.setCell (T hb 4 Y) (Z (Q (T g 0 Y)) (ZU y_) j_)).ownsRow (z (A w0)) i size m n j:=λf o=>aB f (λe=>by
  obtain⟨_,_,cs2,l⟩:=af f hb e
  exact o (ar h.ab l)) _ _
 have hst:=h.rst;rw[cM,AI] at hst;refine⟨⟨h.ak.setCell h.hbB _,h.hbB,aw h.ab _,b h.X (by decide),b h.ror (by decide),b (ownsRow_pop (last:=[U nm]) (by simp[bO]) (by simpa[bO] using hst)) (by decide),h.apart,λx p r=>b (h.V x p r) (by decide)⟩,KS.setCell w h.hbB (.inr λcs t fz q=>.inr (.inr (ar q h.ab))) _⟩
end
def yD (h:L.Pairwise λm b=>m.e≠b.e){b:SM}(hi:L[i]?=Q m)(r:L[j]?=Q b)(e:m.e=b.e):i=j:=by
 rw[ES] at h;obtain⟨l,f⟩:=j5.1 hi;obtain⟨n,g⟩:=j5.1 r;rcases VO i j with p|o|q;{exact absurd (by rw[f,g];exact e) (h i j l n p)};{exact o};{exact absurd (by rw[f,g];exact e.c) (h j i n l q)}
def rW (hn:L.Pairwise λm l=>m.e≠l.e)(i:m∈L)(e:m.e=nm):∃k,fI L nm=Q k/\L[k]?=Q m:=by
 obtain⟨k,b⟩:=PE i;refine⟨k,vW b (by rw[e];simp) λj g hj f=>?_,b⟩;cases h:(g.e.toList == nm.toList) with
 |false=>rfl
 |true =>have:=yD hn f b (by rw[Qw h,e]);omega
section
variable {L:List SM}{y_:List F_}{q_:List k_}{nm:F_}
def Ij (h:fM L y_ q_){e:k_}(g:aS q_ nm=Q e):∃k m,fI L nm=Q k/\L[k]?=Q m/\m.done=ZH/\m.M=(dt e).M/\m.H=(dt e).H:=by obtain⟨h1,h2⟩:=iu g;obtain⟨m,i,b,l,o,n,_⟩:=h.got e h1;obtain⟨k,j,f⟩:=rW h.nod i (b.k h2);exact⟨k,m,j,f,l,o,n⟩
def Ik (h:fM L y_ q_)(hi:atL y_ nm=Q i):∃k m,fI L nm=Q k/\L[k]?=Q m/\m.done=ZA/\nm∈y_:=by
 have f:=hi;unfold atL at f;obtain⟨g,h1,_⟩:=SH.1 f;have b:nm∈y_:=by rw[<-Qw h1];exact gz g
 obtain⟨m,n,j,p⟩:=h.mkg nm b;obtain⟨k,o,l⟩:=rW h.nod n j;exact⟨k,m,o,l,p,b⟩
def Dk (h:fM L y_ q_)(g:aS q_ nm=Y)(h1:atL y_ nm=Y):fI L nm=Y/\∀m∈L,m.e≠nm:=by
 have b:∀m∈L,m.e≠nm:=λm f e=>by
  rcases h.all m f with⟨x,l,i⟩|h2;{exact dI g x l (i.k e)};{exact jU h1 _ h2 e}
 refine⟨yB λj m hj f=>?_,b⟩;cases h2:(m.e.toList == nm.toList) with
 |false=>rfl
 |true=>exact absurd (Qw h2) (b m (J1 f))
def tj (h:fM L y_ q_)(j:∀m∈L,m.e≠nm)(i:m.e=nm)(o:m.done=ZA):fM (L++[m]) (y_++[nm]) q_:=by
 refine⟨?_,by simp[h.len];omega,λx l=>?_,λt g=>?_,λy f=>?_⟩;{rw[PD];exact⟨h.nod,VK _ _,λa n b hb=>by rw[j4.1 hb,i];exact j a n⟩};{obtain⟨y,f,r⟩:=h.got x l;exact⟨y,NY _ f,r⟩};{rcases p8.1 g with g|g;{obtain⟨y,f,r⟩:=h.mkg t g;exact⟨y,NY _ f,r⟩};{exact⟨m,PK _ (j4.2 rfl),by rw[i,j4.1 g],o⟩}};{rcases p8.1 f with f|f;{exact(h.all y f).imp id λh=>NY _ h};{rw[j4.1 f,i];exact .inr (PK _ (j4.2 rfl))}}
def yE{g:List k_}{k:Nat}{b:SM}(h:fM L (y_++[nm]) g)(B:L[k]?=Q m)(H:m.e=nm)(n:b.e=nm)(u:x.e=nm)(P:b.done=ZH)(ZQ:b.M=(dt x).M)(M:b.H=(dt x).H)(O:b.V=x.D)(K:∀y∈g,y.e≠nm)(h1:atL y_ nm=Y):fM (L.set k b) y_ (g++[x]):=by
 have C:=(j5.1 B).1;have ZR:=(j5.1 B).2;have l:∀y∈L,y.e≠nm->y∈L.set k b:=λy f ZS=>by
  obtain⟨i,hi⟩:=PE f;refine J1 (i:=i) ?_;rw[Q2 λe=>?_];{exact hi}
  ·subst e;rw[B] at hi;cases hi
   exact ZS H
 have Z8:b∈L.set k b:=J1 (PH C);refine⟨?_,by rw[NJ,h.len];simp;omega,λy f=>?_,λt q=>?_,λy f=>?_⟩;{have p:=h.nod;rw[ES] at p ⊢;have s:∀(i:Nat) (hi:i<(L.set k b).length),(L.set k b)[i].e=(L[i]'(by simpa using hi)).e:=λi hi=>(by rw[List.getElem_set];split;{rename_i e;subst e;rw[ZR,H,n]};{rfl});intro i j hi D G;rw[s i hi,s j D];exact p i j (by simpa using hi) (by simpa using D) G};{rcases p8.1 f with f|f;{obtain⟨ZZ,hz,o,r⟩:=h.got y f;exact⟨ZZ,l ZZ hz (by rw[o];exact K y f),o,r⟩};{rw[j4.1 f];exact⟨b,Z8,by rw[n,u],P,ZQ,M,O⟩}};{obtain⟨ZZ,hz,o,r⟩:=h.mkg t (NY _ q);exact⟨ZZ,l ZZ hz (by rw[o];exact jU h1 t q),o,r⟩};{rcases OR f with ZT|rfl;{rcases h.all y ZT with⟨ZZ,hz,e⟩|h2;{exact .inl ⟨ZZ,NY _ hz,e⟩};{rcases p8.1 h2 with h2|h2;{exact .inr h2};{exact .inl ⟨x,PK _ (j4.2 rfl),by rw[u,j4.1 h2]⟩}}};{exact .inl ⟨x,PK _ (j4.2 rfl),by rw[u,n]⟩}}
end
def oZ{S:J_}(h:SpcOk S)(hi:atI (nm0 S.f0) S.n0 nm=Q i):atI (nm1 S.f1) S.n1 nm=Y:=by
 have b:=h.chk;unfold aR at b;split at b;· omega
 split at b;· omega
 split at b;· omega
 split at b;· omega
 split at b;· omega
 split at b;· omega
 rename_i f;obtain⟨h1,h2⟩:=bu hi;have:=iG (Bool.eq_false_iff.2 f) h1;rw[h2] at this;exact vV this
open Ca
section
variable {w0:E}{S:J_}{a0 a1:O_}{c0 c1 hb:Nat}{md or st:ZB}{y_:List F_}{q_:List k_}{L:List SM}
def Gc (w:E)(nm:F_)(h:SI w0 hb (Z a0 S.n0 c0) (Z a1 S.n1 c1) w y_ q_ L md or st)(t:ZU L<=100000)(k:Nat)(m:SM)(h1:fI L nm=Q k)(h2:L[k]?=Q m)(D:m.done=ZH):Calls Pg 120 #[.pointer (Q (T hb 0 Y)),U nm] w λe w'=>e=ZI (ZJ #[J I m.M,U m.H,Z Y 0 0])/\SI w0 hb (Z a0 S.n0 c0) (Z a1 S.n1 c1) w' y_ q_ L md or st/\KS (z (A w0)) XN w w':=by
 obtain⟨o,l⟩:∃W:E,ZV w (N #[J I 0,U ⟨#[]⟩,Z Y 0 0] 88)=W:=⟨_,rfl⟩
 obtain⟨y,kr,-⟩:=nb1 l;have p:=ae l;clear l;have f:=ae (h.aa y ly);have b:z (A w0)<=z (A w):=h.lt;have hkl:=(j5.1 h2).1;obtain⟨g,j_,cur,rfl,-⟩:=h.X.2.resolve_left (λh=>by omega);have Z8:eh (fI L nm)=(k:Int):=by rw[h1];rfl
 have r:=ae h2;obtain⟨n,hn⟩:∃n,n=ZU L:=⟨_,rfl⟩
 have ZT:=ae hn;have hkn:k<n:=by omega
 clear h h1 h2 hn;go_enter func120,ntmps120;go_wp2_with fail;rw[p.i];clear p;refine(pI o nm f t).P ?_;rintro e w1⟨rfl,s⟩;rw[s];clear s;rw[Z8];obtain⟨hbl,-,-,G,-⟩:=f.ab.y;have d1:ZW o (T g (k*6+1) Y)=Q (J I m.M):=cJ f.X r 1 (by omega) rfl;have d2:ZW o (T g (k*6+2) Y)=Q (U m.H):=cJ f.X r 2 (by omega) rfl;have d3:ZW o (T g (k*6+3) Y)=Q (Z Y 0 0):=cJ f.X r 3 (by omega) rfl;have d5:ZW o (T g (k*6+5) Y)=Q (ZF ZH):=by have:=cJ f.X r.i 5 (by omega) (u:=ZF m.done) rfl;rw[D] at this;exact this
 rw[<-ZT.i] at G;obtain⟨rl,r0,r1,B,q⟩:=bR kr;have rf0:=q 0;have rf1:=q 1;have rf2:=q 2;have hI0:(0:Int)<=(k:Int):=by omega
 have hI1:(k:Int)<(n:Int):=by omega
 clear q;go_wp2_with fail;refine bp (v:=ZJ #[J I m.M,U m.H,Z Y 0 0]) (by simp[results,SU,go_sem,r0,r1,B]) rfl ⟨rfl,?_,?_⟩;{have ZZ:=f.ag kr.i ⟨by decide,by decide,by decide,by decide⟩ b 0 (J I m.M);have x:=aw kr.i (j:=0) (J I m.M);have C:=ZZ.ag x ⟨by decide,by decide,by decide,by decide⟩ b 1 (U m.H);exact C.ag (aw x (j:=1) (U m.H)) ⟨by decide,by decide,by decide,by decide⟩ b 2 (Z Y 0 0)}
 ·refine((((KS.l (X:=XN) y ly b).k (KS.setCell (X:=λi=>i=z (A w)) _ b (Or.inl rfl) _) ?_).k (KS.setCell (X:=λi=>i=z (A w)) _ b (Or.inl rfl) _) ?_).k (KS.setCell (X:=λi=>i=z (A w)) _ b (Or.inl rfl) _) ?_);all_goals
   intro i hi h;have e2:i=z (A w):=h;omega
def wk{M:List F_}(h:ZY w b 9 1 (Z (Q (T g 0 Y)) n j_) n (bO M)){t:F_}(f:M[i]?=Q t):ZW w (T g i Y)=Q (U t):=by have h1:=h.cells (g:=g) rfl i (U t) (by rw[bO,L8,f];rfl);rw[addr_add,I5] at h1;exact h1
def xG (C:pJ w0 S a0 a1)(w:E)(nm:F_)(h:SI w0 hb (Z a0 S.n0 c0) (Z a1 S.n1 c1) w y_ q_ L md or st)(JI:ZU L<=100000)(Fk:ZU y_<=60)(k:Nat)(m:SM)(h1:fI L nm=Q k)(h2:L[k]?=Q m)(hd:m.done=ZA)(tg B:Nat)(ht:atI (nm1 S.f1) S.n1 nm=Q tg)(hi:atL y_ nm=Q B):Calls Pg 120 #[.pointer (Q (T hb 0 Y)),U nm] w λe w'=>mF w0 hb (Z a0 S.n0 c0) (Z a1 S.n1 c1) y_ L w e w' (.inr (.inl (y_.drop B))):=by
 obtain⟨i1,JY,J0,JL,JO⟩:=lE pK;obtain⟨W0,ZO⟩:∃W:E,ZV w (N #[J I 0,U ⟨#[]⟩,Z Y 0 0] 88)=W:=⟨_,rfl⟩
 obtain⟨A0,kr,-⟩:=nb1 ZO;have la:=ae ZO;clear ZO;have S0:=ae (h.aa A0 ly);have o:z (A w0)<=z (A w):=h.lt;have hkl:=(j5.1 h2).1;obtain⟨g,j_,cur,rfl,-⟩:=h.X.2.resolve_left (λh=>by omega);have e1:eh (fI L nm)=(k:Int):=by rw[h1];rfl
 have P:eh (atI (nm1 S.f1) S.n1 nm)=(tg:Int):=by rw[ht];rfl
 have JZ:B<ZU y_/\(∃x,y_[B]?=Q x/\(x.toList == nm.toList)=ZH)/\∀(j:Nat) (y:F_),j<B->y_[j]?=Q y->(y.toList == nm.toList)=ZA:=by unfold atL at hi;obtain⟨q1,q2,q3⟩:=SH.1 hi;refine⟨q1,⟨_,gq q1,q2⟩,λj y hj ZM=>?_⟩;have:=q3 j hj;rw[TJ] at this;rw[(j5.1 ZM).2] at this;exact this
 obtain⟨Hx,⟨xi,n8,At⟩,mv⟩:=JZ;obtain⟨ZN,l,cus,rfl,sm⟩:=h.rst.2.resolve_left (λh=>by omega);have JQ:ZU y_<=l:=sm.2.2.1;have H2:=ae h2;have J6:=ae n8;have JJ:=ae mv;have JV:=ae At;obtain⟨n,hn⟩:∃n,n=ZU L:=⟨_,rfl⟩
 have HN:=ae hn;have hkn:k<n:=by omega
 obtain⟨f,bt⟩:∃f,f=ZU y_:=⟨_,rfl⟩
 have ZT:=ae bt;have CC:=ae C;have hsm:=C.ok.bb;rw[<-bt] at Hx Fk JQ;clear h h1 h2 hn C ht hi sm bt n8 At mv;go_enter func120,ntmps120;go_wp2_with fail;rw[la.i];clear la;refine(pI W0 nm S0 JI).P ?_;rintro e w1⟨rfl,Bk⟩;rw[Bk];clear Bk;rw[e1];obtain⟨ZP,b0,b1,b2,-⟩:=S0.ab.y;have d5:ZW W0 (T g (k*6+5) Y)=Q (ZF ZA):=by have:=cJ S0.X H2.i 5 (by omega) (u:=ZF m.done) rfl;rw[hd] at this;exact this
 rw[<-HN.i] at b2;have hI0:(0:Int)<=(k:Int):=by omega
 have hI1:(k:Int)<(n:Int):=by omega
 go_wp2_with fail;refine(iP a0 S.n0 c0 a1 S.n1 c1 S.f0 nm W0 (by omega) (CC.src.aa S0.ak ly)).P ?_;rintro e w1⟨rfl,Z8⟩;have S1:=ae (S0.aa Z8 ly);have th:Hid (w1.heap[z (A w)]?=_):=(Z8.p _ (ah kr)).k kr;have K1:=ae (A0.k (Z8.P A0.size));clear Z8 b0 b1 b2 ZP d5;obtain⟨ZP,b0,b1,-⟩:=S1.ab.y;go_wp2_with fail;refine(iQ a0 S.n0 c0 a1 S.n1 c1 S.f1 nm w1 (by omega) (CC.w.aa S1.ak ly)).P ?_;rintro e ZR⟨he,Z8⟩;rw[P] at he;subst he;have s:=ae (S1.aa Z8 ly);have n9:Hid (ZR.heap[z (A w)]?=_):=(Z8.p _ (ah th)).k th;have K2:=ae (K1.k (Z8.P K1.size));clear Z8 b0 b1 ZP;obtain⟨ZP,-,-,-,-,b4,b5,b6,b7,b8,bf⟩:=s.ab.y;have JU:=bf 5;have JT:=bf 6;have JX:=bf 7;have JM:=bf 8;rw[<-ZT.i] at b4;clear bf;have hT0:(0:Int)<=(tg:Int):=by omega
 go_wp2_with fail;go_loop [9] (λi=>∃j:Nat,j<=B/\i=J I j) (λi=>B - (intOf i).toNat);case atStart=>exact⟨0,by omega,rfl⟩
 case round =>
  obtain⟨j,hj,rfl⟩:=hrel;obtain⟨y,ZM⟩:∃y,y_[j]?=Q y:=⟨_,gq (by have:=ZT.i;omega)⟩
  have dj:ZW ZR (T ZN j Y)=Q (U y):=wk s.rst ZM;have hjm:(j:Int)<(f:Int):=by omega
  have HY:=ae ZM;clear ZM;by_cases JR:j<B;{have J4:=JJ.i j y JR HY.i;have HNE:=ae J4;go_wp2;exact⟨⟨j+1,by omega,by go_num⟩,by simp[intOf];omega⟩}
  ·obtain rfl:j=B:=by omega
   have hye:(y.toList == nm.toList)=ZH:=by
    have:=HY.i;rw[J6.i] at this;cases this
    exact JV
   go_upto_region 22 with fail;clear dj b4 b5 b6 b7 b8 JU JT JX JM;have ro:=ae (aw s.ab (j:=8) (ZF ZH))
   have R3:Hid ((ZR.setCell (T hb 8 Y) (ZF ZH)).ownsRow (z (A w0)) 9 1 (Z (Q (T ZN 0 Y)) (ZU y_) l) (ZU y_) (bO y_)):=aB s.rst (λe=>by
    obtain⟨_,_,DQ,D⟩:=af s.rst hb e
    exact absurd (ar s.ab D) (by decide)) _ _
   have hbw:hb≠z (A w):=λe=>absurd (ar s.ab (e ▸ n9.i)) (by decide);have R:Hid ((ZR.setCell (T hb 8 Y) (ZF ZH)).heap[z (A w)]?=_):=(qh _ _ _ _ (Ne.symm hbw)).k n9;have V:Hid (KS (z (A w0)) XN w (ZR.setCell (T hb 8 Y) (ZF ZH))):=(KS.l (X:=XN) K2 ly o).to (KS.setCell ZR s.hbB (.inr λl t fz H=>.inr (.inr (ar H s.ab))) _);have ZL:z (A w0)<=hb:=s.hbB;generalize World.setCell ZR _ _=b at ro R3 R V ⊢;have ZQ:Hid (ShBox b hb (Z a0 S.n0 c0) (Z a1 S.n1 c1) (Z (Q (T g 0 Y)) (ZU L) j_) or (Z (Q (T ZN 0 Y)) (ZU y_) l) 0 ⟨#[]⟩ (Z Y 0 0) ZH):=ro.i;obtain⟨Id,-,-,-,-,b4,-⟩:=ZQ.y;rw[<-ZT.i] at b4;have LO:=ae (oH b 9 1);have A4:=ae ((BS b).alloc ly (N #[] 9));have JW:Hid (∀q u,(bO (y_.drop j))[q]?=Q u->(ZV b (N #[] 9)).cell? (((T ZN j Y):Addr).add q)=Q u):=λq u hq=>by have h1:=(K_ R3 A4 ly).cells (g:=ZN) rfl (j+q) u (by rw[<-hq,bO,bO,L8,L8,YJ]);rw[addr_add,I5] at h1;rw[addr_add];exact h1
   have hjc:¬ l=j:=by omega
   have hI2:(0:Int)<=(j:Int):=by omega
   have hI3:(j:Int)<=(f:Int):=by omega
   have hI4:(f:Int)<=(l:Int):=by omega
   have qr:(bO (y_.drop j)).length=(f - j)*1:=by rw[bO,PJ,NO,<-ZT.i,Nat.mul_one]
   have JS:=ae qr;have aq:∀u∈bO (y_.drop j),u.oneCell'=ZH:=λu hu=>by rw[bO,NN] at hu;obtain⟨t,_,rfl⟩:=hu;rfl
   have GS:=ae aq;clear qr aq;have HG:Hid (∀r:E,(ZV b (N #[] 9)).grownBy r (Q (z (A b)))->r.heap[hb]?=b.heap[hb]?/\r.heap[z (A w)]?=b.heap[z (A w)]?):=λr hg=>by
    have hz:z (A (ZV b (N #[] 9)))=z (A b)+1:=by simp
    have JN:=ah R.i;exact⟨(hg.p hb (by omega) (λe=>by have P:hb=z (A b):=IN e;omega)).k (A4.p hb Id),(hg.p (z (A w)) (by omega) (λe=>by have P:z (A w)=z (A b):=IN e;omega)).k (A4.p _ JN)⟩
   have fd:z (A b)<=z (A (ZV b (N #[] 9))):=by simp
   have JH:(0+(f - j))*16<=140737488355328:=by omega
   have Fm:0+(f - j)<=maxLen:=by unfold maxLen;omega
   have JG:0+(f - j)≠0:=by omega
   go_wp2_with (first
    |(at_builtin;refine cj _ rfl (.tmp 129) (.tmp 135) 43 rfl (z (A b)) 9 i1 (U ⟨#[]⟩) 1 16 NH JY J0 JL JO rfl (by decide) (Z (Q (T (z (A b)) 0 Y)) 0 0) 0 [] (by simp[Act.eval]) LO.i (T ZN j Y) (f - j) (l - j) (bO (y_.drop j)) (by simp[Act.eval]) JS.i JW.i GS.i Fm JH fd ?_;intro v4 r M p J5;have O4:=ae M;have ph:=ae (HG r p).1;have DE:=ae (HG r p).2;have G4:=ae p;obtain⟨G,c4,cu4,rfl,JK⟩:=M.2.resolve_left (λh=>JG h.2);clear JK M p J5;obtain⟨hbl4,-,-,-,-,-,f5,f6,f7,-,ff⟩:=(ShBox.ad ZQ ph).y;have ff5:=ff 5;have ff6:=ff 6;have ff7:=ff 7;obtain⟨rl,r0,r1,r2,rf⟩:=bR (DE.k R);have rf0:=rf 0;have rf1:=rf 1;have rf2:=rf 2;have hbw2:¬ (z (A w))=hb:=(λe=>hbw e.c);have ZS:¬ hb=z (A w):=hbw;clear ff rf)
    |fail)
   refine bp (v:=ZJ #[J I 6,U ⟨#[]⟩,Z (Q (T G 0 Y)) (f - j) c4]) (by simp[results,SU,go_sem,r0,r1,r2]) rfl ?_;have ex:(y_.drop j).length=f - j:=by rw[NO,<-ZT.i]
   have ld:=ph.k ZQ.i;have Fd:=aw ld (j:=5) (J I 6);have ur:=aw Fd (j:=6) (U ⟨#[]⟩);have JP:=aw ur (j:=7) (Z (Q (T G 0 Y)) (f - j) c4);have K:(Value.slice (Q (T G 0 Y)) (f - j) c4).ownBlock≠Q hb:=λe=>by obtain⟨_,_,DQ,D⟩:=af O4 hb (by simpa[Value.ownBlock] using e);exact absurd (ar ld D) (by decide)
   have O:(Value.slice (Q (T G 0 Y)) (f - j) c4).ownBlock≠Q (z (A w)):=λe=>by obtain⟨_,_,DQ,D⟩:=af O4 (z (A w)) (by simpa[Value.ownBlock] using e);exact absurd (ar (DE.k R) D) (by decide)
   have o4:ZY r (z (A w0)) 9 1 (Z (Q (T G 0 Y)) (f - j) c4) (f - j) (bO (y_.drop j)):=by have h1:=O4.i;rw[I5,NS] at h1;exact aE h1 (nX o V.aa.size)
   have k4:KS (z (A w0)) XN w r:=(V.to (KS.l (X:=XN) A4 ly (nX o V.aa.size))).to (KS.of_grown G4 (nX (nX o V.aa.size) fd) λq hq=>by
    have P:q=z (A b):=(IN hq).c;refine⟨by rw[P];exact nX o V.aa.size,.inr λl t fz H=>?_⟩;rw[P] at H
    exact .inl (ar H (gM b _)))
   have ZZ:∀(W:E) (l:Array ZB) (t:ZK) (fz:Nat × Nat),W.heap[hb]?=r.heap[hb]?\/(∃c2,W.heap[hb]?=Q (N c2 141 (0,0)))->W.heap[hb]?=Q (N l t fz)->t=9\/t=188\/t=141:=λW l t fz hW H=>by
    rcases hW with hW|⟨c2,hW⟩
    {exact .inr (.inr (ar H (hW.k ld)))};{exact .inr (.inr (ar H hW))}
   refine⟨Q (T G 0 Y),c4,by rw[ex];rfl,⟨_,_,_,_,_,(qh _ _ _ _ ZS).k ((qh _ _ _ _ ZS).k ((qh _ _ _ _ ZS).k (by rw[ex];exact JP))),?_⟩,?_⟩;{show World.ownsRow _ _ _ _ _ (y_.drop j).length _;rw[ex];exact aB (aB (aB (aB (aB (aB o4 K _ _) K _ _) K _ _) O _ _) O _ _) O _ _}
   ·have k7:=((k4.to (KS.setCell (X:=XN) r ZL (.inr λl t fz=>ZZ _ l t fz (.inl rfl)) (J I 6) (j:=5))).to (KS.setCell (X:=XN) _ ZL (.inr λl t fz=>ZZ _ l t fz (.inr ⟨_,Fd⟩)) (U ⟨#[]⟩) (j:=6))).to (KS.setCell (X:=XN) _ ZL (.inr λl t fz=>ZZ _ l t fz (.inr ⟨_,ur⟩)) (Z (Q (T G 0 Y)) (f - j) c4) (j:=7));refine((k7.k (KS.setCell (X:=λi=>i=z (A w)) _ o (Or.inl rfl) _) ?_).k (KS.setCell (X:=λi=>i=z (A w)) _ o (Or.inl rfl) _) ?_).k (KS.setCell (X:=λi=>i=z (A w)) _ o (Or.inl rfl) _) ?_;all_goals
     intro i hi h;have P:i=z (A w):=h;omega
end
def gG (nm:F_):SM:=⟨nm,0,⟨#[]⟩,[],Z Y 0 0,ZA⟩
def Ge (w:E)(g f b l m i:ZB)(t:ZK):∀j u,[g,f,b,l,m,i][j]?=Q u->(ZV w (N #[g,f,b,l,m,i] t)).cell? (((T (z (A w)) 0 Y):Addr).add j)=Q u:=by
 intro j u h;rw[addr_add];have hj:j<6:=by
  rcases OT j 6 with n|n;{exact n};{rw[NU (by simp;omega)] at h;cases h}
 rcases(show j=0\/j=1\/j=2\/j=3\/j=4\/j=5 by omega) with rfl|rfl|rfl|rfl|rfl|rfl;all_goals
  simp at h;subst h;simp
def pO (w:E)(v:ZB)(t:ZK):∀j u,[v][j]?=Q u->(ZV w (N #[v] t)).cell? (((T (z (A w)) 0 Y):Addr).add j)=Q u:=by
 intro j u h;rw[addr_add];have f:j=0:=by
  rcases OT j 1 with b|b;{omega};{rw[NU (by simp;omega)] at h;cases h}
 subst f;simp at h;subst h;simp
def jZ{v:ZB}{f:List ZB}(h:ZY w b e size v n f):∃a j_,v=Z a n j_:=by
 obtain⟨_,⟨rfl,rfl⟩|⟨g,j_,cur,rfl,_⟩⟩:=h;{exact⟨Y,0,rfl⟩};{exact⟨_,_,rfl⟩}
def KS.fresh{B:Nat}{W:E}(h:KS B XN W w)(hb:z (A W)<=b)(g:B<=z (A W))(j:Nat)(u:ZB):KS B XN W (w.setCell (T b j Y) u):=
 h.k (KS.setCell (X:=λi=>i=b) w (nX g hb) (Or.inl rfl) u) λi hi f=>by have e2:i=b:=f;omega
section
variable {w0 w:E}{hb:Nat}{s0 s1 or st:ZB}{y_:List F_}{q_:List k_}{L:List SM}
def SI.upd'{k:Nat}(n:ZU L=ZQ)(h:SI w0 hb s0 s1 w y_ q_ L (Z (Q (T g 0 Y)) ZQ j_) or st)(b:L[k]?=Q m)(i:j<6)(f:smV m'=(smV m).set j u)(l:m'.done=ZH->w.ownsRow (z (A w0)) 191 3 m'.sv (ZU m'.V) (eG m'.V)):SI w0 hb s0 s1 (w.setCell (T g (k*6+j) Y) u) y_ q_ (L.set k m') (Z (Q (T g 0 Y)) ZQ j_) or st/\KS (z (A w0)) XN w (w.setCell (T g (k*6+j) Y) u)/\(L.set k m')[k]?=Q m'/\(L.set k m').length=ZQ:=by subst n;have:=h.upd b i f l;rw[NJ] at this;exact⟨this.1,this.2,PH (j5.1 b).1,NJ⟩
def SI.told{k:Nat}(B:ZU L=ZQ)(h:SI w0 hb s0 s1 w y_ q_ L (Z (Q (T g 0 Y)) ZQ j_) or st)(y:L[k]?=Q m)(x:m.done=ZA)(b:Int)(f:F_):SI w0 hb s0 s1 (((w.setCell (T g (k*6+1) Y) (J I b)).setCell (T g (k*6+1+1) Y) (U f)).setCell (T g (k*6+1+2) Y) (Z Y 0 0)) y_ q_ (L.set k ⟨m.e,b,f,m.V,m.sv,ZA⟩) (Z (Q (T g 0 Y)) ZQ j_) or st/\KS (z (A w0)) XN w (((w.setCell (T g (k*6+1) Y) (J I b)).setCell (T g (k*6+1+1) Y) (U f)).setCell (T g (k*6+1+2) Y) (Z Y 0 0))/\(L.set k ⟨m.e,b,f,m.V,m.sv,ZA⟩)[k]?=Q ⟨m.e,b,f,m.V,m.sv,ZA⟩/\(L.set k ⟨m.e,b,f,m.V,m.sv,ZA⟩).length=ZQ:=by obtain⟨a1,t,q,r⟩:=h.upd' B y (j:=1) (by omega) (u:=J I b) (m':=⟨m.e,b,m.H,m.V,m.sv,ZA⟩) (by simp[smV,x]) (λh=>by cases h);obtain⟨Z8,o,s,p⟩:=a1.upd' r q (j:=2) (by omega) (u:=U f) (m':=⟨m.e,b,f,m.V,m.sv,ZA⟩) rfl (λh=>by cases h);obtain⟨n,ZZ,i,l⟩:=Z8.upd' p s (j:=3) (by omega) (m':=⟨m.e,b,f,m.V,m.sv,ZA⟩) (u:=Z Y 0 0) rfl (λh=>by cases h);rw[V5,V5] at n i l;exact⟨n,(t.to o).to ZZ,i,l⟩
end
def Jt{ZZ:Int}(h0:0<=ZZ)(h1:ZZ<=1048576):IntKind.i64.wrap ZZ=ZZ:=by rw[nL];omega
def Jb{f:Nat}{t:ZK}{v:ZB}{i:List ZB}{j:Array ZB}{fz:Nat × Nat}(h:ZY w f e size v n i)(hb:w.heap[b]?=Q (N j t fz))(g:e≠t):v.ownBlock≠Q b:=λk=>by obtain⟨_,_,cs',l⟩:=af h b k;exact g (ar l hb)
def Jc{w':E}{B:Nat}{v:ZB}{b:List ZB}(h:ZY w B 191 3 v n b)(f:KS B XN w w'):ZY w' B 191 3 v n b:=b9 h λk e=>by obtain⟨_,_,cs,g⟩:=af h k e;exact f.ad _ _ _ _ g (by decide) (by decide) (by decide) λh=>h
def LExt.add (n:Nat)(L:List SM)(h:m.done=ZA):LExt n L (L++[m]):=by
 refine⟨λi g b=>⟨g,?_,rfl⟩,λg b f=>?_⟩;{rw[NI (j5.1 b).1];exact b};{rcases p8.1 b with b|b;{exact .inl ⟨g,b,f,rfl⟩};{rw[j4.1 b,h] at f;cases f}}
def LExt.set{k:Nat}{o:List SM}(h:LExt n L o)(q:o[k]?=Q m)(y:f.e=m.e)(x:∀j,f.sv.ownBlock=Q j->n<=j):LExt n L (o.set k f):=by
 refine⟨λi l b=>?_,λl b r=>?_⟩
 ·obtain⟨u,p,s⟩:=h.nam i l b;by_cases g:k=i
  ·subst g;rw[q] at p;cases p
   exact⟨f,PH (j5.1 q).1,y.k s⟩
  {exact⟨u,by rw[Q2 g];exact p,s⟩}
 {rcases OR b with t|rfl;{exact h.sn l t r};{exact .inr x}}
section
variable {w0:E}{S:J_}{a0 a1:O_}{c0 c1 hb:Nat}{md or st:ZB}{y_:List F_}{q_:List k_}{L:List SM}
def mI:(∀(C:pJ w0 S a0 a1) (w:E) (nm:F_) (h:SI w0 hb (Z a0 S.n0 c0) (Z a1 S.n1 c1) w y_ q_ L md or st) (Ke:ZU L<=100000) (LG:ZU q_<=100000) (h1:fI L nm=Y) (h3:atI (nm1 S.f1) S.n1 nm=Y) (f:Int) (tx:F_) (hw:(atI (nm0 S.f0) S.n0 nm=Y/\f=4/\tx=nm)\/∃si,atI (nm0 S.f0) S.n0 nm=Q si/\f=0/\tx=(S.f0 si).H) (kd:Int) (te:F_),Calls Pg 120 #[.pointer (Q (T hb 0 Y)),U nm] w λe w'=>∃JL JU,e=ZI (ZJ #[J I f,U tx,Z Y 0 0])/\SI w0 hb (Z a0 S.n0 c0) (Z a1 S.n1 c1) w' y_ (q_++[⟨nm,kd,0,te,0,[]⟩]) ((L++[gG nm]).set (ZU L) ⟨nm,f,tx,[],Z Y 0 0,ZH⟩) JL JU st/\KS (z (A w0)) XN w w')/\(∀(C:pJ w0 S a0 a1) (w:E) (nm:F_) (h:SI w0 hb (Z a0 S.n0 c0) (Z a1 S.n1 c1) w y_ q_ L md or st) (Ke:ZU L<=100000) (h1:fI L nm=Y) (hi:atL y_ nm=Y) (tg:Nat) (h3:atI (nm1 S.f1) S.n1 nm=Q tg) (X:Out k_) (hd:(ZU y_=60/\X=.inr (.inr nm))\/∃n',ZU y_+(n'+1)=60/\oe w0 S hb (Z a0 S.n0 c0) (Z a1 S.n1 c1) n'/\fM L y_ q_/\PG S y_ q_/\fm S y_ q_ 1/\MT S y_/\aS q_ nm=Y/\X=iF nm tg (bT S (aT S n' (y_++[nm])) tg 201 q_ [] [])),Calls Pg 120 #[.pointer (Q (T hb 0 Y)),U nm] w λe w'=>mF w0 hb (Z a0 S.n0 c0) (Z a1 S.n1 c1) y_ L w e w' X):=by
 refine⟨λC w nm h Ke LG h1 h3 f tx hw kd te=>?_,λC w nm h Ke h1 hi tg h3 X hd=>?_⟩;rotate_left;focus
  rcases hd with⟨JX,hX⟩|⟨n',Md,HK,hrel,hp,th,LB,ZN,hX⟩
  case' inl=>(subst hX;have DEEP:=True.intro)
  case' inr =>
   obtain⟨-,ex⟩:=Dk hrel ZN hi;have hmade:ZU q_<=50000:=by unfold fm at th;omega
   have JX:ZU y_<60:=by omega
   have sm:=(bu h3).1;obtain⟨R,hR⟩:∃R,R=bT S (aT S n' (y_++[nm])) tg 201 q_ [] []:=⟨_,rfl⟩
   have HR:=ae hR;obtain⟨tb,LN,LA,La⟩:=C.w.resolve_left (by omega);have My:=ae LA;have JY:=ae La;have Kv:Hid (∀(W:E) (JL JU KT:ZB) (a:O_) (j_:Nat),SI w0 hb (Z a0 S.n0 c0) (Z a1 S.n1 c1) W (y_++[nm]) q_ (L++[gG nm]) JL JU KT->SlIns w0 a (S.f1 tg).h (S.f1 tg).q->Calls Pg 153 #[.pointer (Q (T hb 0 Y)),ZJ #[Z a (S.f1 tg).h j_]] W λe w'=>pM w0 hb (Z a0 S.n0 c0) (Z a1 S.n1 c1) (y_++[nm]) (L++[gG nm]) W e w' R):=by
    intro W JL JU KT a j_ hS J9;rw[hR];refine F8 C n' HK q_ _ JL JU KT W a j_ tg (by rw[cM,AI];omega) hS (tj hrel ex rfl rfl) (iH hp ZN) ?_ ?_ sm J9
    ·have:=gu sm (bu h3).2 ZN hi
     unfold fm at th ⊢;omega
    ·intro t ht
     rcases p8.1 ht with ht|ht
     ·exact LB t ht
     ·rw[j4.1 ht,h3];rfl
   have HI:=ae hi;have H0:=ae ZN;have Lu:Hid (∀ZT x,R=.inl (ZT,x)->ZU ZT<=100000/\∀y∈ZT,y.e≠nm):=by intro ZT x he;rw[hR] at he;have g1:=gS C.ok sm (dm C.ok n' (y_++[nm])) _ _ _ _ _ _ (iH hp ZN) (iv S q_) rfl he;have l:=sP (λq_ MZ Lt e=>iq S n' (y_++[nm]) q_ MZ Lt e) _ _ _ _ _ _ he;have g3:=gu sm (bu h3).2 ZN hi;refine⟨?_,(jB g1.1).2⟩;unfold fO at l;unfold fm at th;omega
   have LV:=ae ex;have HREL:=ae hrel;subst hX;rw[<-hR];clear HK hp th LB ZN La LA hR ex hrel;clear Md sm
 all_goals
  obtain⟨im,MU,MO,DE,Ll⟩:=lE FX;obtain⟨i1,Ln,Lp,Kn,KP⟩:=lE pK;obtain⟨W0,J6⟩:∃W:E,ZV w (N #[J I 0,U ⟨#[]⟩,Z Y 0 0] 88)=W:=⟨_,rfl⟩
  obtain⟨A0,kr,-⟩:=nb1 J6;have KJ:=ae J6;clear J6;have S0:=ae (h.aa A0 ly);have D:z (A w0)<=z (A w):=h.lt;have e1:eh (fI L nm)=-1:=by rw[h1];rfl
  obtain⟨am,cm,rfl⟩:=jZ h.X;obtain⟨n,hn⟩:∃n,n=ZU L:=⟨_,rfl⟩
  have HN:=ae hn;have CC:=ae C;have hsm:=C.ok.bb;have hn1:n<=100000:=by omega
  clear h h1 hn C
 rotate_left 2;focus
  have et:eh (atI (nm1 S.f1) S.n1 nm)=-1:=by rw[h3];rfl
  rcases hw with⟨h2,Fd,Ku⟩|⟨si,h2,Fd,Ku⟩
  case' inl=>have es:eh (atI (nm0 S.f0) S.n0 nm)=-1:=by rw[h2];rfl
  case' inr =>
   have es:eh (atI (nm0 S.f0) S.n0 nm)=(si:Int):=by rw[h2];rfl
   have MP:=(bu h2).1;obtain⟨sb,so,Lz,LC⟩:∃sb so,a0=Q (T sb so Y)/\RowSource w0 sb so S.n0 S.f0:=by
    rcases CC.src with h|⟨b,off,e,hr⟩
    ·omega
    ·exact⟨b,off,e,hr⟩
   have Lm:=ae LC;have Mv:=ae Lz;clear LC Lz
  all_goals
   have LL:=ae Ku;have LU:=ae Fd;clear h2 h3 Ku Fd
 rotate_left 2;iterate 2
  focus
   obtain⟨es0,es⟩:∃ZZ,eh (atI (nm0 S.f0) S.n0 nm)=ZZ:=⟨_,rfl⟩
   have et:eh (atI (nm1 S.f1) S.n1 nm)=(tg:Int):=by rw[h3];rfl
   have Lr:∀(j:Nat) (y:F_),y_[j]?=Q y->(y.toList == nm.toList)=ZA:=λj y hy=>by unfold atL at hi;rw[SJ] at hi;exact hi y (J1 hy)
   have MK:=ae Lr;obtain⟨ms,Lg⟩:∃ms,ms=ZU y_:=⟨_,rfl⟩
   have fd:=ae Lg;have hT0:(0:Int)<=(tg:Int):=by omega
   have sm:=(bu h3).1;rw[<-Lg] at JX;obtain⟨LM,LI,rfl⟩:=jZ S0.rst;clear h3 hi Lr Lg
  rotate_left
 all_goals
  go_enter func120,ntmps120;go_wp2_with fail;rw[KJ.i];clear KJ;refine(pI W0 nm S0 Ke).P ?_;rintro e w1⟨rfl,LP⟩;rw[LP,e1];clear LP e1;obtain⟨H,-,-,b2,-⟩:=S0.ab.y;rw[<-HN.i] at b2;have A1:=ae ((BS W0).alloc ly (N #[U nm,J I 0,U ⟨#[]⟩,Z Y 0 0,Z Y 0 0,ZF ZA] 188));have SA:=ae (S0.aa A1 ly);have RM:=ae (by have h:=SA.X;rw[<-HN.i] at h;exact h);have MX:z (A (ZV W0 (N #[U nm,J I 0,U ⟨#[]⟩,Z Y 0 0,Z Y 0 0,ZF ZA] 188)))=z (A W0)+1:=by simp
  have HG:Hid (∀ZS:E,(ZV W0 (N #[U nm,J I 0,U ⟨#[]⟩,Z Y 0 0,Z Y 0 0,ZF ZA] 188)).grownBy ZS (Value.slice am n cm).ownBlock->ZS.heap[hb]?=(ZV W0 (N #[U nm,J I 0,U ⟨#[]⟩,Z Y 0 0,Z Y 0 0,ZF ZA] 188)).heap[hb]?):=λZS hg=>hg.p hb (by omega) λe=>by obtain⟨_,_,cs,hc⟩:=af RM hb e.c;exact absurd (ar SA.ab hc) (by decide)
  have Mi:z (A w0)<=z (A (ZV W0 (N #[U nm,J I 0,U ⟨#[]⟩,Z Y 0 0,Z Y 0 0,ZF ZA] 188))):=SA.lt;have hz1':z (A W0)<z (A (ZV W0 (N #[U nm,J I 0,U ⟨#[]⟩,Z Y 0 0,Z Y 0 0,ZF ZA] 188))):=by omega
  clear MX
  go_upto_region 7 with (first
   |(at_builtin;refine cj _ rfl (.tmp 46) (.tmp 49) 139 rfl (z (A w0)) 188 im (ZJ #[U ⟨#[]⟩,J I 0,U ⟨#[]⟩,Z Y 0 0,Z Y 0 0,ZF ZA]) 6 96 underlying139 MU MO DE Ll rfl (by decide) (Z am n cm) n (L.flatMap smV) (by simp[Act.eval]) RM.i (T (z (A W0)) 0 Y) 1 1 [U nm,J I 0,U ⟨#[]⟩,Z Y 0 0,Z Y 0 0,ZF ZA] (by simp[Act.eval]) rfl (Ge W0 _ _ _ _ _ _ _) (by simp[Value.oneCell']) (by unfold maxLen;omega) (by omega) Mi ?_;intro v2 ZS G o la;have O2:=ae G;have G2:=ae o;have Lx:=ae (HG ZS o);obtain⟨l,GS,cu2,rfl,Nd⟩:=G.2.resolve_left (λh=>by omega);clear Nd G o la;obtain⟨Ma,-,-,f2,-,-,-,-,-,-,ff⟩:=(ShBox.ad SA.ab Lx).y;have Mo:=ff 2;clear ff)
   |fail)
  have SX:=ae (SA.addL (m:=gG nm) (w':=ZS) (v:=Z (Q (T l 0 Y)) (n+1) GS) (by rw[<-HN.i];exact G2) (by rw[<-HN.i];exact O2) rfl);have S3:=ae SX.1;have K3:Hid (KS (z (A w0)) XN w (ZS.setCell (T hb 2 Y) (Z (Q (T l 0 Y)) (n+1) GS))):=((KS.l (X:=XN) A0 ly D).to (KS.l A1 ly S0.lt)).to SX.2;have Kf:Hid ((ZS.setCell (T hb 2 Y) (Z (Q (T l 0 Y)) (n+1) GS)).heap[z (A w)]?=Q (N #[J I 0,U ⟨#[]⟩,Z Y 0 0] 88 (0,0))):=by have ZN:=(A1.p _ (ah kr)).k kr;exact(SX.2.ad _ _ _ _ ZN (by decide) (by decide) (by decide) λh=>h).k ZN
  have bt:(L++[gG nm]).length=n+1:=by rw[cM,AI,<-HN.i]
  have aq:Hid ((L++[gG nm])[n]?=Q (gG nm)):=by rw[HN.i];show _=_;rw[KK ly,UV];rfl
  clear SX f2 Mo Ma b2 H RM SA A1 HG O2 G2 Lx;generalize World.setCell ZS _ _=W3 at S3 K3 Kf ⊢;obtain⟨H,b0,b1,-⟩:=S3.ab.y;go_wp2_with fail;refine(iP a0 S.n0 c0 a1 S.n1 c1 S.f0 nm W3 (by omega) (CC.src.aa S3.ak ly)).P ?_;rintro e w4⟨he,hB⟩;rw[es] at he;subst he;have S4:=ae (S3.aa hB ly);have Lf:Hid (w4.heap[z (A w)]?=_):=(hB.p _ (ah Kf)).k Kf;have K4:=ae (K3.to (KS.l (X:=XN) hB ly S3.lt));clear hB b0 b1 H S3 K3 Kf;obtain⟨H,b0,b1,-⟩:=S4.ab.y;go_wp2_with fail;refine(iQ a0 S.n0 c0 a1 S.n1 c1 S.f1 nm w4 (by omega) (CC.w.aa S4.ak ly)).P ?_;rintro e ZO⟨he,hB⟩;rw[et] at he;subst he;have S5:=ae (S4.aa hB ly);have ro:Hid (ZO.heap[z (A w)]?=Q (N #[J I 0,U ⟨#[]⟩,Z Y 0 0] 88 (0,0))):=(hB.p _ (ah Lf)).k Lf;have K5:=ae (K4.to (KS.l (X:=XN) hB ly S4.lt));clear hB b0 b1 H S4 K4 Lf A0 S0 kr
 iterate 2
  ·first
    |guard_hyp Lm
     have A5:=ae ((BS ZO).alloc ly (N #[J I 4,U nm,Z Y 0 0] 88));have Kl:=ae (S5.aa A5 ly);have hI0:(0:Int)<=(si:Int):=by omega
     have hI1:(si:Int)<(S.n0:Int):=by omega
     have q0:ZW (ZV ZO (N #[J I 4,U nm,Z Y 0 0] 88)) (T hb 0 Y)=Q (Z (Q (T sb so Y)) S.n0 c0):=by have h:=Kl.ab.y.2.1;rw[Mv.i] at h;exact h
     have q1:ZW (ZV ZO (N #[J I 4,U nm,Z Y 0 0] 88)) (T sb (so+si*2+1) Y)=Q (U tx):=by rw[LL.i];exact((Lm.aa Kl.ak ly).2 si MP).2
     have H:=S5.ab.y.1;have ql:sb<z (A ZO):=lj Lm.1 S5.lt;go_upto_region 13 with fail;clear q0 q1 ql H A5 Kl;obtain⟨s,J4⟩:∃W:E,ZV ZO (N #[J I 0,U tx,Z Y 0 0] 88)=W:=⟨_,rfl⟩
     obtain⟨A6,-,-⟩:=nb1 J4;have J0:=ae J4;clear J4;have ZM:Hid (s.heap[z (A ZO)]?=Q (N #[J I f,U tx,Z Y 0 0] 88 (0,0))):=by rw[<-J0.i];rw[LU.i];exact gM _ _
     rw[J0.i];clear J0
    |skip
     go_upto_region 13 with fail;have ZM:Hid ((ZV ZO (N #[J I 4,U nm,Z Y 0 0] 88)).heap[z (A ZO)]?=Q (N #[J I f,U tx,Z Y 0 0] 88 (0,0))):=by rw[LU.i,LL.i];exact gM _ _
     have A6:=ae ((BS ZO).alloc ly (N #[J I 4,U nm,Z Y 0 0] 88));generalize World.alloc ZO _=s at A6 ZM ⊢
   have P:=ae (S5.aa A6 ly);have ph:Hid (s.heap[z (A w)]?=Q (N #[J I 0,U ⟨#[]⟩,Z Y 0 0] 88 (0,0))):=(A6.p _ (ah ro)).k ro;have K6:=ae (K5.to (KS.l (X:=XN) A6 ly S5.lt));obtain⟨rb,JP⟩:∃rb,rb=z (A ZO):=⟨_,rfl⟩
   rw[<-JP] at ZM ⊢;have Me:z (A w)<=rb:=by have:=K5.aa.size;omega
   clear JP A6 S5 ro K5;obtain⟨H,-,-,b2,-⟩:=P.ab.y;obtain⟨rl,r0,r1,r2,-⟩:=bR ZM;obtain⟨Mg,Mb,Ka,Bk⟩:=af P.X l rfl;have At:=ae Bk;have R6:=ae (by have h:=P.X;rw[bt] at h;exact h);have q1:ZW s (T l (n*6+1) Y)=Q (J I 0):=cJ (by rw[bt];exact R6) aq 1 (by omega) rfl;have q2:ZW s (T l (n*6+1+1) Y)=Q (U ⟨#[]⟩):=cJ (by rw[bt];exact R6) aq 2 (by omega) rfl;have q3:ZW s (T l (n*6+1+2) Y)=Q (Z Y 0 0):=cJ (by rw[bt];exact R6) aq 3 (by omega) rfl;have qf:∀j,ZX s (T l j Y)=ZA:=λj=>by simp[World.frozen?,Bk]
   have Kx:=qf (n*6+1);have KU:=qf (n*6+1+1);have Kr:=qf (n*6+1+2);clear qf Bk;have MW:(n:Int)<(n:Int)+1:=by omega
   have ld:l≠hb:=by intro e;have h:=At.i;rw[e] at h;exact absurd (ar h P.ab) (by decide)
   have r:l≠rb:=by intro e;have h:=At.i;rw[e] at h;exact absurd (ar h ZM) (by decide)
   refine wp_region_held_drew (S:=λV=>ZW V (T hb 2 Y)=Q (Z (Q (T l 0 Y)) (n+1) GS)/\ZW V (T rb 0 Y)=Q (J I f)/\ZW V (T rb 1 Y)=Q (U tx)/\ZW V (T rb 2 Y)=Q (Z Y 0 0)) (by kernel_rfl) ⟨b2,r0,r1,r2⟩ λhS=>?_;have HS:=ae hS;clear hS
   iterate 8
    first|refine aN 0 (v:=?_) rfl rfl (by kernel_rfl) (λ_ _ _ h=>h) rfl ?_ HS ?_|refine aN 4 (v:=?_) rfl rfl (by kernel_rfl) (λ_ _ _ h=>h) rfl ?_ HS ?_
    rotate_left
    ·(rintro wz⟨s0,s1,s2,s3⟩;go_simp)
     (try with_reducible rfl)
    (try simp only[Act.put,z_])
   have TL:=ae (P.told bt aq rfl f tx)
   have JR:Hid ((((s.setCell (T l (n*6+1) Y) (J I f)).setCell (T l (n*6+1+1) Y) (U tx)).setCell (T l (n*6+1+2) Y) (Z Y 0 0)).drew.cell? (T hb 2 Y)=Q (Z (Q (T l 0 Y)) (n+1) GS)/\(((s.setCell (T l (n*6+1) Y) (J I f)).setCell (T l (n*6+1+1) Y) (U tx)).setCell (T l (n*6+1+2) Y) (Z Y 0 0)).drew.cell? (T rb 0 Y)=Q (J I f)/\(((s.setCell (T l (n*6+1) Y) (J I f)).setCell (T l (n*6+1+1) Y) (U tx)).setCell (T l (n*6+1+2) Y) (Z Y 0 0)).drew.cell? (T rb 1 Y)=Q (U tx)/\(((s.setCell (T l (n*6+1) Y) (J I f)).setCell (T l (n*6+1+1) Y) (U tx)).setCell (T l (n*6+1+2) Y) (Z Y 0 0)).drew.cell? (T rb 2 Y)=Q (Z Y 0 0)):=
    ⟨(Q_ _ _ _ _ ld).k ((Q_ _ _ _ _ ld).k ((Q_ _ _ _ _ ld).k b2)),(Q_ _ _ _ _ r).k ((Q_ _ _ _ _ r).k ((Q_ _ _ _ _ r).k r0)),(Q_ _ _ _ _ r).k ((Q_ _ _ _ _ r).k ((Q_ _ _ _ _ r).k r1)),(Q_ _ _ _ _ r).k ((Q_ _ _ _ _ r).k ((Q_ _ _ _ _ r).k r2))⟩
   refine aL (i:=8) rfl (by kernel_rfl) λK hK=>?_;go_simp;refine hK _ _ JR ?_;clear hK K HS q1 q2 q3 Kx KU Kr b2 r0 r1 r2 rl
   (try simp only[Act.put])
   refine wpAnyH_done (by kernel_rfl) ?_ _;have D7:Hid (Below (((s.setCell (T l (n*6+1) Y) (J I f)).setCell (T l (n*6+1+1) Y) (U tx)).setCell (T l (n*6+1+2) Y) (Z Y 0 0)).heap.size (((s.setCell (T l (n*6+1) Y) (J I f)).setCell (T l (n*6+1+1) Y) (U tx)).setCell (T l (n*6+1+2) Y) (Z Y 0 0)) (((s.setCell (T l (n*6+1) Y) (J I f)).setCell (T l (n*6+1+1) Y) (U tx)).setCell (T l (n*6+1+2) Y) (Z Y 0 0)).drew):=br.drew;have S7:=ae (TL.1.aa D7 ly);have K7:=ae (K6.to (TL.2.1.to (KS.l (X:=XN) D7 ly TL.1.lt)));have JT:=TL.2.2.1;have JM:=TL.2.2.2;have O:Hid ((((s.setCell (T l (n*6+1) Y) (J I f)).setCell (T l (n*6+1+1) Y) (U tx)).setCell (T l (n*6+1+2) Y) (Z Y 0 0)).drew.heap[z (A w)]?=Q (N #[J I 0,U ⟨#[]⟩,Z Y 0 0] 88 (0,0))):=by have ZN:=(TL.2.1.ad _ _ _ _ ph (by decide) (by decide) (by decide) λh=>h).k ph;exact ZN
   have n9:Hid ((((s.setCell (T l (n*6+1) Y) (J I f)).setCell (T l (n*6+1+1) Y) (U tx)).setCell (T l (n*6+1+2) Y) (Z Y 0 0)).drew.heap[rb]?=Q (N #[J I f,U tx,Z Y 0 0] 88 (0,0))):=by have ZN:=(TL.2.1.ad _ _ _ _ ZM (by decide) (by decide) (by decide) λh=>h).k ZM;exact ZN
   have Hx:=ae JT;have Id:=ae JM;clear TL JR JT JM ph ZM K6 P R6 At D7;generalize World.drew (World.setCell (World.setCell (World.setCell s _ _) _ _) _ _)=W7 at S7 K7 O n9 ⊢;obtain⟨H,-,-,b2,-⟩:=S7.ab.y;obtain⟨J7,Kh,LE,qr⟩:=af S7.X l rfl;have q5:ZW W7 (T l (n*6+5) Y)=Q (ZF ZA):=cJ (by have h:=S7.X;rw[Id.i] at h ⊢;exact h) Hx 5 (by omega) rfl;have KM:ZX W7 (T l (n*6+5) Y)=ZA:=by simp[World.frozen?,qr]
   have TD:=ae (S7.upd' Id Hx (j:=5) (by omega) (u:=ZF ZH) (m':=⟨nm,f,tx,[],Z Y 0 0,ZH⟩) rfl (λ_=>⟨rfl,.inl ⟨rfl,rfl⟩⟩));have Z8:Hid ((W7.setCell (T l (n*6+5) Y) (ZF ZH)).heap[z (A w)]?=Q (N #[J I 0,U ⟨#[]⟩,Z Y 0 0] 88 (0,0))):=(TD.2.1.ad _ _ _ _ O (by decide) (by decide) (by decide) λh=>h).k O;have ZL:Hid ((W7.setCell (T l (n*6+5) Y) (ZF ZH)).heap[rb]?=Q (N #[J I f,U tx,Z Y 0 0] 88 (0,0))):=(TD.2.1.ad _ _ _ _ n9 (by decide) (by decide) (by decide) λh=>h).k n9;have S8:=ae TD.1;have K8:=ae (K7.to TD.2.1);clear qr;go_upto_region 15 with fail;clear b2 q5 KM TD S7 K7 O n9;generalize World.setCell W7 _ _=ZR at S8 K8 Z8 ZL ⊢;obtain⟨ao,co,rfl⟩:=jZ S8.ror;obtain⟨q,hq⟩:∃q,q=ZU q_:=⟨_,rfl⟩
   have HQ:=ae hq;rw[<-hq] at LG;clear hq;obtain⟨H,-,-,-,b3,-⟩:=S8.ab.y;rw[<-HQ.i] at b3;have M:=ae ((BS ZR).alloc ly (N #[U nm] 9));have S9:=ae (S8.aa M ly);have RO:=ae (by have h:=S9.ror;rw[<-HQ.i] at h;exact h);have JZ:z (A w0)<=z (A (ZV ZR (N #[U nm] 9))):=S9.lt;have HG:Hid (∀ZS:E,(ZV ZR (N #[U nm] 9)).grownBy ZS (Value.slice ao q co).ownBlock->ZS.heap[hb]?=(ZV ZR (N #[U nm] 9)).heap[hb]?/\ZS.heap[z (A w)]?=(ZV ZR (N #[U nm] 9)).heap[z (A w)]?/\ZS.heap[rb]?=(ZV ZR (N #[U nm] 9)).heap[rb]?):=λZS hg=>by
    have ex:∀(i:Nat) (cs:Array ZB) (t:ZK) (fz:Nat × Nat),(ZV ZR (N #[U nm] 9)).heap[i]?=Q (Obj.cells cs t fz)->t≠9->ZS.heap[i]?=(ZV ZR (N #[U nm] 9)).heap[i]?:=λi cs t fz hi ht=>hg.p i (ah hi) λe=>by obtain⟨_,_,Ka,hc⟩:=af RO i e.c;exact ht (ar hi hc)
    exact⟨ex _ _ _ _ S9.ab (by decide),ex _ _ _ _ ((M.p _ (ah Z8)).k Z8) (by decide),ex _ _ _ _ ((M.p _ (ah ZL)).k ZL) (by decide)⟩
   have JS:Hid ((ZV ZR (N #[U nm] 9)).heap[z (A w)]?=Q (N #[J I 0,U ⟨#[]⟩,Z Y 0 0] 88 (0,0))):=(M.p _ (ah Z8)).k Z8;have Li:Hid ((ZV ZR (N #[U nm] 9)).heap[rb]?=Q (N #[J I f,U tx,Z Y 0 0] 88 (0,0))):=(M.p _ (ah ZL)).k ZL;have hbw:¬ hb=z (A w):=λe=>by have h:=S8.ab;unfold ShBox at h;rw[e] at h;exact absurd (ar h Z8) (by decide)
   have Fk:¬ (z (A w))=hb:=λe=>hbw e.c;have KH:¬ hb=rb:=λe=>by have h:=S8.ab;unfold ShBox at h;rw[e] at h;exact absurd (ar h ZL) (by decide)
   have LZ:¬ rb=hb:=λe=>KH e.c
   go_wp2_with (first
    |(at_builtin;refine cj _ rfl (.tmp 100) (.tmp 102) 43 rfl (z (A w0)) 9 i1 (U ⟨#[]⟩) 1 16 NH Ln Lp Kn KP rfl (by decide) (Z ao q co) q (bO (q_.map (·.e))) (by simp[Act.eval]) RO.i (T (z (A ZR)) 0 Y) 1 1 [U nm] (by simp[Act.eval]) rfl (pO ZR _ _) (by simp[Value.oneCell']) (by unfold maxLen;omega) (by omega) JZ ?_;intro v9 w9 G o la;have O9:=ae G;have G9:=ae o;have KV:=ae la;have mv:=ae (HG w9 o);obtain⟨g9,c9,Mm,rfl,KQ⟩:=G.2.resolve_left (λh=>by omega);clear KQ G o la;obtain⟨Mc,-,-,-,f3,-,-,-,-,-,ff⟩:=(ShBox.ad S9.ab mv.1).y;have MR:=ff 3;obtain⟨rl,r0,r1,r2,rf⟩:=bR (mv.2.1.k JS);have Kp:=rf 0;have Le:=rf 1;have KO:=rf 2;obtain⟨pl,p0,p1,p2,pf⟩:=bR (mv.2.2.k Li);clear ff rf pf)
    |fail)
   have JV:=ae (S9.ord (x:=⟨nm,kd,0,te,0,[]⟩) (w':=w9) (v:=Z (Q (T g9 0 Y)) (q+1) c9) (by rw[<-HQ.i];exact G9) (by rw[<-HQ.i];exact O9) (by rw[<-HQ.i];exact KV));refine bp (v:=ZJ #[J I f,U tx,Z Y 0 0]) (by simp[results,SU,go_sem,r0,r1,r2]) rfl ?_;have JN:=(qh w9 (T hb 3 Y) (Z (Q (T g9 0 Y)) (q+1) c9) (z (A w)) Fk).k (mv.2.1.k JS);refine⟨Z (Q (T l 0 Y)) (n+1) GS,Z (Q (T g9 0 Y)) (q+1) c9,rfl,?_,?_⟩
   ·rw[<-HN.i]
    have x0:=JV.1;rw[V5] at x0;replace x0:=x0.ag JN ⟨by decide,by decide,by decide,by decide⟩ D 0 (J I f);have y0:=aw JN (j:=0) (J I f);have x1:=x0.ag y0 ⟨by decide,by decide,by decide,by decide⟩ D 1 (U tx);exact x1.ag (aw y0 (j:=1) (U tx)) ⟨by decide,by decide,by decide,by decide⟩ D 2 (Z Y 0 0)
   ·have k0:=(K8.to (KS.l (X:=XN) M ly S8.lt)).to JV.2
    exact((k0.fresh ly D 0 _).fresh ly D 1 _).fresh ly D 2 _
 all_goals
  obtain⟨H,-,-,-,-,b4,b5,b6,b7,b8,bf⟩:=S5.ab.y;have Lh:=bf 4;have MY:=bf 5;have Mx:=bf 6;have Mz:=bf 7;have Mq:=bf 8;rw[<-fd.i] at b4;clear bf;go_wp2_with fail;go_loop [9] (λi=>∃j:Nat,j<=ms/\i=J I j) (λi=>ms - (intOf i).toNat);case atStart=>exact⟨0,by omega,rfl⟩
  case' round =>
  obtain⟨j,hj,rfl⟩:=hrel;by_cases hlt:j<ms
  ·obtain⟨y,hy⟩:∃y,y_[j]?=Q y:=⟨_,gq (by have:=fd.i;omega)⟩
   obtain⟨gs,cs,cus,ev,-⟩:=S5.rst.2.resolve_left (λh=>by have:=fd.i;omega);rw[<-fd.i] at ev;cases ev
   have dj:ZW ZO (T gs j Y)=Q (U y):=wk S5.rst hy;have hjm:(j:Int)<(ms:Int):=by omega
   have LV:=ae (MK j y hy);clear hy;have ex:=LV.i;go_wp2;exact⟨⟨j+1,by omega,by go_num⟩,by simp[intOf];omega⟩
  obtain rfl:j=ms:=by omega
 ·have hI60:¬ (60:Int)<=(j:Int):=by omega
  clear b5 b6 b7 b8 MY Mx Mz Mq;have A6:=ae ((BS ZO).alloc ly (N #[U nm] 9));have P:=ae (S5.aa A6 ly);have RS:=ae (by have h:=P.rst;rw[<-fd.i] at h;exact h);have Lc:z (A w0)<=z (A (ZV ZO (N #[U nm] 9))):=P.lt;obtain⟨q0,aa,ca,q1,-⟩:=(JY.aa P.ak ly).2 tg sm;obtain⟨-,aa',ca',LJ,J9⟩:=JY.2 tg sm;have J5:=JY.1;have e1:=(P.ak.O (p:=(T tb (LN+tg*2+1) Y)) J5).k LJ;rw[q1] at e1;simp only[ND,IS,TX] at e1;obtain⟨rfl,rfl⟩:=e1;have MC:=ae J9;have Q1:=ae q1;clear q0 q1 LJ J9;have Lo:Hid ((ZV ZO (N #[U nm] 9)).heap[z (A w)]?=Q (N #[J I 0,U ⟨#[]⟩,Z Y 0 0] 88 (0,0))):=(A6.p _ (ah ro)).k ro;have HG:Hid (∀ZS:E,(ZV ZO (N #[U nm] 9)).grownBy ZS (Value.slice LM j LI).ownBlock->ZS.heap[hb]?=(ZV ZO (N #[U nm] 9)).heap[hb]?/\ZS.heap[tb]?=(ZV ZO (N #[U nm] 9)).heap[tb]?):=λZS hg=>by
   refine⟨hg.p hb (ah P.ab) λe=>?_,hg.p tb (lj J5 Lc) λe=>?_⟩;{obtain⟨_,_,Ka,hc⟩:=af RS hb e.c;exact absurd (ar P.ab hc) (by decide)};{have:=(af RS tb e.c).1;omega}
  have Ml:z (A w0)<=hb:=S5.hbB;have htbh:¬ tb=hb:=by omega
  have htbh':¬ hb=tb:=by omega
  have htI:(tg:Int)<(S.n1:Int):=by omega
  go_wp2_with (first
   |(at_builtin;refine cj _ rfl (.tmp 166) (.tmp 168) 43 rfl (z (A w0)) 9 i1 (U ⟨#[]⟩) 1 16 NH Ln Lp Kn KP rfl (by decide) (Z LM j LI) j (bO y_) (by simp[Act.eval]) RS.i (T (z (A ZO)) 0 Y) 1 1 [U nm] (by simp[Act.eval]) rfl (pO ZO _ _) (by simp[Value.oneCell']) (by unfold maxLen;omega) (by omega) Lc ?_;intro v7 w7 G o la;have O7:=ae G;have G7:=ae o;have LF:=ae la;have Kk:=ae (HG w7 o);obtain⟨g7,c7,cu7,rfl,MV⟩:=G.2.resolve_left (λh=>by omega);clear MV G o la;obtain⟨Ko,-,f1,-,-,f4,-,-,-,-,ff⟩:=(ShBox.ad P.ab Kk.1).y;have Nf:=ff 4;rw[My.i] at f1;have f9:=(cq (a:=(T tb (LN+tg*2+1) Y)) Kk.2).k Q1.i;have Mr:tb<z (A w7):=(lj (lj J5 Ml) (TQ Ko));clear ff)
   |fail)
  have SP:=ae (P.push (nm:=nm) (w':=w7) (v:=Z (Q (T g7 0 Y)) (j+1) c7) (by rw[<-fd.i];exact G7) (by rw[<-fd.i];exact O7) (by rw[<-fd.i];exact LF));have S7:=ae SP.1;have K7:Hid (KS (z (A w0)) XN w (w7.setCell (T hb 4 Y) (Z (Q (T g7 0 Y)) (j+1) c7))):=(K5.to (KS.l (X:=XN) A6 ly S5.lt)).to SP.2;have O:Hid ((w7.setCell (T hb 4 Y) (Z (Q (T g7 0 Y)) (j+1) c7)).heap[z (A w)]?=Q (N #[J I 0,U ⟨#[]⟩,Z Y 0 0] 88 (0,0))):=(SP.2.ad _ _ _ _ Lo (by decide) (by decide) (by decide) λh=>h).k Lo;clear SP f1 f4 f9 Nf Ko Mr O7 G7 LF Kk HG RS P A6 Lo Q1 S5 K5 ro b4 Lh H;generalize World.setCell w7 _ _=W7 at S7 K7 O ⊢;refine(Kv W7 _ _ _ aa ca S7 MC).P ?_;clear Kv;rintro e w8 JH;rcases R with⟨ZT,x⟩|c|d
  ·obtain⟨L1,md1,Mp,st1,gx,cx,rfl,JW,ur,Kj,Mh,Kz,n8⟩:=JH;obtain⟨Mk,KN⟩:=Lu.i ZT x rfl;clear Lu;obtain⟨f,Fd⟩:∃f,f=x.1.M:=⟨_,rfl⟩
   obtain⟨B,Ld⟩:∃B,B=x.1.H:=⟨_,rfl⟩
   obtain⟨ls,Kc⟩:∃ls,ls=x.2:=⟨_,rfl⟩
   obtain⟨ln,Ki⟩:∃ln,ln=ZU ls:=⟨_,rfl⟩
   have Kt:iF nm tg (.inl (ZT,x))=.inl ((ZT++[⟨nm,3,f,B,tg,ls⟩]),⟨nm,3,f,B,tg,ls⟩):=by rw[Fd,Ld,Kc];rfl
   have Mf:=ae Kt;rw[<-Kc,<-Ki] at Kj;rw[<-Fd,<-Ld,<-Kc,<-Ki];clear Kt Fd Ld Kc;have Mj:=ae Ki;clear Ki;obtain⟨m1,DE,DQ⟩:=Kz.nam n (gG nm) aq;replace DQ:m1.e=nm:=DQ;have Na:Hid (m1.done=ZA):=by
    obtain⟨m2,Ll,e2,e3⟩:=ur.mkg nm (PK _ (j4.2 rfl));obtain⟨i2,KZ⟩:=PE Ll;have e4:=yD ur.nod KZ DE (e2.k DQ.c);rw[e4,DE] at KZ;cases KZ
    exact e3
   have aq:=ae DE;obtain⟨ZQ,hN⟩:∃ZQ,ZQ=ZU L1:=⟨_,rfl⟩
   have bt:ZU L1=ZQ:=hN.c;have hnN:n<ZQ:=by rw[hN];exact(j5.1 DE).1
   obtain⟨g,JQ,cum,rfl,-⟩:=JW.X.2.resolve_left (λh=>by omega);obtain⟨gp,ZP,cup,rfl,LD⟩:=JW.rst.2.resolve_left (λh=>by rw[cM,AI] at h;omega);have hcp:j+1<=ZP:=by have:=LD.2.2.1;rw[cM,AI,<-fd.i] at this;exact this
   rw[bt,cM,AI,<-fd.i] at JW;have KW:=ae (K7.to n8);have Z8:Hid (w8.heap[z (A w)]?=Q (N #[J I 0,U ⟨#[]⟩,Z Y 0 0] 88 (0,0))):=(n8.ad _ _ _ _ O (by decide) (by decide) (by decide) λh=>h).k O;have Lq:z (A w)<=z (A W7):=K7.aa.size;have X8:=ae (((LExt.add (z (A w)) L (m:=gG nm) rfl).k Kz Lq));have Mt:Hid (z (A w)<=gx):=nX Lq (af Kj gx rfl).1;have MB:=ae (aE Kj (nX D Lq));have L9:=ae ur;have hw8:z (A w)<=z (A w8):=KW.aa.size;have Ks:=ae JW;have Lj:=ae DQ;have LX:=ae KN;clear JW ur Kj Mh Kz n8 DQ DE KN LD S7 K7 O hN;have M:=ae ((BS w8).alloc ly (N #[J I f,U B,Z Y 0 0] 88));have ZM:Hid ((ZV w8 (N #[J I f,U B,Z Y 0 0] 88)).heap[z (A w8)]?=Q (N #[J I f,U B,Z Y 0 0] 88 (0,0))):=gM _ _;have Kd:=ae (Ks.aa M ly);have K9:=ae (KS.l (X:=XN) M ly Ks.lt);have Kb:Hid ((ZV w8 (N #[J I f,U B,Z Y 0 0] 88)).heap[z (A w)]?=Q (N #[J I 0,U ⟨#[]⟩,Z Y 0 0] 88 (0,0))):=(M.p _ (ah Z8)).k Z8;go_upto_region 30 with fail;generalize World.alloc w8 _=W9 at M ZM Kd K9 Kb ⊢;obtain⟨rb,JP⟩:∃rb,rb=z (A w8):=⟨_,rfl⟩
   rw[<-JP] at ZM ⊢;have Me:z (A w)<=rb:=by omega
   clear JP M Ks Z8;obtain⟨H,-,-,-,-,b4,-,-,-,b8,bf⟩:=Kd.ab.y;have Lh:=bf 4;clear bf;go_upto_region 32 with fail;have MQ:IntKind.i64.wrap (j:Int)=(j:Int):=Jt (by omega) (by omega);have MG:(0:Int)<=(j:Int):=by omega
   have Nc:(j:Int)<=(ZP:Int):=by omega
   refine aI (λV=>ZW V (T hb 4 Y)=Q (Z (Q (T gp 0 Y)) (j+1) ZP)) 14 (by kernel_rfl) ?_;have HS:Hid (W9.drew.cell? (T hb 4 Y)=Q (Z (Q (T gp 0 Y)) (j+1) ZP)):=b4;iterate 10
    refine aO 0 (v:=?_) rfl rfl (by kernel_rfl) (λ_ _ _ h=>h) rfl ?_ HS ?_;rotate_left
    ·(intro wz s0;go_simp)
     (try with_reducible rfl)
    (try simp only[Act.put,z_])
   refine fs (i:=10) (v:=J I (j:Int)) rfl (by kernel_rfl) (by kernel_rfl) (by kernel_rfl) (by kernel_rfl) (λ_ _ _ h=>h) rfl ?_ HS ?_;{intro wz s0;go_simp}
   (try simp only[Act.put,z_])
   refine fs (i:=11) (v:=Z (Q (T gp 0 Y)) j ZP) rfl (by kernel_rfl) (by kernel_rfl) (by kernel_rfl) (by kernel_rfl) (λ_ _ _ h=>h) rfl ?_ HS ?_;{intro wz s0;go_simp}
   (try simp only[Act.put,z_])
   iterate 2
    refine bV 12 rfl rfl (by kernel_rfl) λK hK=>?_;go_simp;refine hK _ _ (λ_=>HS) ?_;clear hK K
    (try simp only[Act.put,z_])
   have PP:Hid (SI w0 hb (Z a0 S.n0 c0) (Z a1 S.n1 c1) (W9.setCell (T hb 4 Y) (Z (Q (T gp 0 Y)) j ZP)) y_ ZT L1 (Z (Q (T g 0 Y)) ZQ JQ) Mp (Z (Q (T gp 0 Y)) j ZP)/\KS (z (A w0)) XN W9 (W9.setCell (T hb 4 Y) (Z (Q (T gp 0 Y)) j ZP))):=by have h:=Kd.i;rw[fd.i] at h ⊢;exact h.pop
   refine ai (i:=14) rfl (by kernel_rfl) λK hK=>?_;go_simp;refine hK _ _ (λh=>absurd rfl h) ?_;clear hK K HS b4 Lh b8
   (try simp only[Act.put])
   refine ba (by kernel_rfl) ?_ _;have D6:Hid (Below (W9.setCell (T hb 4 Y) (Z (Q (T gp 0 Y)) j ZP)).heap.size (W9.setCell (T hb 4 Y) (Z (Q (T gp 0 Y)) j ZP)) (W9.setCell (T hb 4 Y) (Z (Q (T gp 0 Y)) j ZP)).drew):=br.drew;have P:=ae (PP.1.aa D6 ly);have K6:=ae ((K9.to PP.2).to (KS.l (X:=XN) D6 ly PP.1.lt));have ph:Hid ((W9.setCell (T hb 4 Y) (Z (Q (T gp 0 Y)) j ZP)).drew.heap[z (A w)]?=Q (N #[J I 0,U ⟨#[]⟩,Z Y 0 0] 88 (0,0))):=(PP.2.ad _ _ _ _ Kb (by decide) (by decide) (by decide) λh=>h).k Kb;have KI:Hid ((W9.setCell (T hb 4 Y) (Z (Q (T gp 0 Y)) j ZP)).drew.heap[rb]?=Q (N #[J I f,U B,Z Y 0 0] 88 (0,0))):=(PP.2.ad _ _ _ _ ZM (by decide) (by decide) (by decide) λh=>h).k ZM;clear PP D6 Kd K9 Kb ZM MQ MG Nc H;generalize World.drew (World.setCell W9 _ _)=s at P K6 ph KI ⊢;have ZM:=ae KI.i;clear KI;go_upto_region 33 with fail;obtain⟨H,-,-,b2,-⟩:=P.ab.y;obtain⟨rl,r0,r1,r2,-⟩:=bR ZM;obtain⟨Mg,Mb,Ka,Bk⟩:=af P.X g rfl;have At:=ae Bk;have R6:Hid (ZY s (z (A w0)) 188 6 (Z (Q (T g 0 Y)) ZQ JQ) ZQ (L1.flatMap smV)):=by have h:=P.X;rw[bt] at h;exact h
   have q1:ZW s (T g (n*6+1) Y)=Q (J I m1.M):=cJ (by rw[bt];exact R6) aq 1 (by omega) rfl;have q2:ZW s (T g (n*6+1+1) Y)=Q (U m1.H):=cJ (by rw[bt];exact R6) aq 2 (by omega) rfl;have q3:ZW s (T g (n*6+1+2) Y)=Q (Z Y 0 0):=cJ (by rw[bt];exact R6) aq 3 (by omega) rfl;have qf:∀j,ZX s (T g j Y)=ZA:=λj=>by simp[World.frozen?,Bk]
   have Kx:=qf (n*6+1);have KU:=qf (n*6+1+1);have Kr:=qf (n*6+1+2);clear qf Bk;have MW:(n:Int)<(ZQ:Int):=by omega
   have ld:g≠hb:=by intro e;have h:=At.i;rw[e] at h;exact absurd (ar h P.ab) (by decide)
   have r:g≠rb:=by intro e;have h:=At.i;rw[e] at h;exact absurd (ar h ZM) (by decide)
   refine wp_region_held_drew (S:=λV=>ZW V (T hb 2 Y)=Q (Z (Q (T g 0 Y)) ZQ JQ)/\ZW V (T rb 0 Y)=Q (J I f)/\ZW V (T rb 1 Y)=Q (U B)/\ZW V (T rb 2 Y)=Q (Z Y 0 0)) (by kernel_rfl) ⟨b2,r0,r1,r2⟩ λhS=>?_;have HS:=ae hS;clear hS;iterate 8
    first|refine aN 0 (v:=?_) rfl rfl (by kernel_rfl) (λ_ _ _ h=>h) rfl ?_ HS ?_|refine aN 4 (v:=?_) rfl rfl (by kernel_rfl) (λ_ _ _ h=>h) rfl ?_ HS ?_
    rotate_left
    ·(rintro wz⟨s0,s1,s2,s3⟩;go_simp)
     (try with_reducible rfl)
    (try simp only[Act.put,z_])
   have TL:=ae (P.told bt aq Na f B);have JR:Hid ((((s.setCell (T g (n*6+1) Y) (J I f)).setCell (T g (n*6+1+1) Y) (U B)).setCell (T g (n*6+1+2) Y) (Z Y 0 0)).drew.cell? (T hb 2 Y)=Q (Z (Q (T g 0 Y)) ZQ JQ)/\(((s.setCell (T g (n*6+1) Y) (J I f)).setCell (T g (n*6+1+1) Y) (U B)).setCell (T g (n*6+1+2) Y) (Z Y 0 0)).drew.cell? (T rb 0 Y)=Q (J I f)/\(((s.setCell (T g (n*6+1) Y) (J I f)).setCell (T g (n*6+1+1) Y) (U B)).setCell (T g (n*6+1+2) Y) (Z Y 0 0)).drew.cell? (T rb 1 Y)=Q (U B)/\(((s.setCell (T g (n*6+1) Y) (J I f)).setCell (T g (n*6+1+1) Y) (U B)).setCell (T g (n*6+1+2) Y) (Z Y 0 0)).drew.cell? (T rb 2 Y)=Q (Z Y 0 0)):=
    ⟨(Q_ _ _ _ _ ld).k ((Q_ _ _ _ _ ld).k ((Q_ _ _ _ _ ld).k b2)),(Q_ _ _ _ _ r).k ((Q_ _ _ _ _ r).k ((Q_ _ _ _ _ r).k r0)),(Q_ _ _ _ _ r).k ((Q_ _ _ _ _ r).k ((Q_ _ _ _ _ r).k r1)),(Q_ _ _ _ _ r).k ((Q_ _ _ _ _ r).k ((Q_ _ _ _ _ r).k r2))⟩
   refine aL (i:=8) rfl (by kernel_rfl) λK hK=>?_;go_simp;refine hK _ _ JR ?_;clear hK K HS q1 q2 q3 Kx KU Kr b2 r0 r1 r2 rl
   (try simp only[Act.put])
   refine wpAnyH_done (by kernel_rfl) ?_ _;have D7:Hid (Below (((s.setCell (T g (n*6+1) Y) (J I f)).setCell (T g (n*6+1+1) Y) (U B)).setCell (T g (n*6+1+2) Y) (Z Y 0 0)).heap.size (((s.setCell (T g (n*6+1) Y) (J I f)).setCell (T g (n*6+1+1) Y) (U B)).setCell (T g (n*6+1+2) Y) (Z Y 0 0)) (((s.setCell (T g (n*6+1) Y) (J I f)).setCell (T g (n*6+1+1) Y) (U B)).setCell (T g (n*6+1+2) Y) (Z Y 0 0)).drew):=br.drew;have S7:=ae (TL.1.aa D7 ly);have K7:=ae (K6.to (TL.2.1.to (KS.l (X:=XN) D7 ly TL.1.lt)));have JT:=TL.2.2.1;have JM:=TL.2.2.2;have O:Hid ((((s.setCell (T g (n*6+1) Y) (J I f)).setCell (T g (n*6+1+1) Y) (U B)).setCell (T g (n*6+1+2) Y) (Z Y 0 0)).drew.heap[z (A w)]?=Q (N #[J I 0,U ⟨#[]⟩,Z Y 0 0] 88 (0,0))):=by have ZN:=(TL.2.1.ad _ _ _ _ ph (by decide) (by decide) (by decide) λh=>h).k ph;exact ZN
   have n9:Hid ((((s.setCell (T g (n*6+1) Y) (J I f)).setCell (T g (n*6+1+1) Y) (U B)).setCell (T g (n*6+1+2) Y) (Z Y 0 0)).drew.heap[rb]?=Q (N #[J I f,U B,Z Y 0 0] 88 (0,0))):=by have ZN:=(TL.2.1.ad _ _ _ _ ZM (by decide) (by decide) (by decide) λh=>h).k ZM;exact ZN
   have Hx:=ae JT;have Id:=ae JM;clear TL JR JT JM ph ZM K6 P R6 At D7;generalize World.drew (World.setCell (World.setCell (World.setCell s _ _) _ _) _ _)=W7 at S7 K7 O n9 ⊢;have OS:=ae MB.i;obtain⟨H,-,-,b2,-⟩:=S7.ab.y;obtain⟨J7,Kh,LE,qr⟩:=af S7.X g rfl;have q4:ZW W7 (T g (n*6+4) Y)=Q m1.sv:=cJ (by have h:=S7.X;rw[Id.i] at h ⊢;exact h) Hx 4 (by omega) rfl;have MN:ZX W7 (T g (n*6+4) Y)=ZA:=by simp[World.frozen?,qr]
   have TD:=ae (S7.upd' Id Hx (j:=4) (by omega) (u:=Z (Q (T gx 0 Y)) ln cx) (m':=⟨m1.e,f,B,ls,Z (Q (T gx 0 Y)) ln cx,ZA⟩) rfl (λh=>by cases h));have JG:Hid ((W7.setCell (T g (n*6+4) Y) (Z (Q (T gx 0 Y)) ln cx)).heap[z (A w)]?=Q (N #[J I 0,U ⟨#[]⟩,Z Y 0 0] 88 (0,0))):=(TD.2.1.ad _ _ _ _ O (by decide) (by decide) (by decide) λh=>h).k O;have JK:Hid ((W7.setCell (T g (n*6+4) Y) (Z (Q (T gx 0 Y)) ln cx)).heap[rb]?=Q (N #[J I f,U B,Z Y 0 0] 88 (0,0))):=(TD.2.1.ad _ _ _ _ n9 (by decide) (by decide) (by decide) λh=>h).k n9;have Fm:=ae TD.1;have J8:=ae (K7.to TD.2.1);have Ky:=ae TD.2.2.1;have Kw:=ae TD.2.2.2;clear qr;go_upto_region 35 with fail;clear b2 q4 MN TD S7 K7 O n9 Hx Id;generalize World.setCell W7 _ _=JO at Fm J8 JG JK ⊢;have Mn:=ae (Jc OS J8);obtain⟨H,-,-,b2,-⟩:=Fm.ab.y;obtain⟨J7,Kh,LE,qr⟩:=af Fm.X g rfl;have q5:ZW JO (T g (n*6+5) Y)=Q (ZF ZA):=cJ (by have h:=Fm.X;rw[Kw.i] at h ⊢;exact h) Ky 5 (by omega) rfl;have KM:ZX JO (T g (n*6+5) Y)=ZA:=by simp[World.frozen?,qr]
   have TD:=ae (Fm.upd' Kw Ky (j:=5) (by omega) (u:=ZF ZH) (m':=⟨m1.e,f,B,ls,Z (Q (T gx 0 Y)) ln cx,ZH⟩) rfl (λ_=>(by rw[<-Mj.i];exact Mn)));have Z8:Hid ((JO.setCell (T g (n*6+5) Y) (ZF ZH)).heap[z (A w)]?=Q (N #[J I 0,U ⟨#[]⟩,Z Y 0 0] 88 (0,0))):=(TD.2.1.ad _ _ _ _ JG (by decide) (by decide) (by decide) λh=>h).k JG;have ZL:Hid ((JO.setCell (T g (n*6+5) Y) (ZF ZH)).heap[rb]?=Q (N #[J I f,U B,Z Y 0 0] 88 (0,0))):=(TD.2.1.ad _ _ _ _ JK (by decide) (by decide) (by decide) λh=>h).k JK;have S8:=ae TD.1;have K8:=ae (J8.to TD.2.1);clear qr;go_upto_region 36 with fail;clear b2 q5 KM TD Fm J8 JG JK;generalize World.setCell JO _ _=ZR at S8 K8 Z8 ZL ⊢;obtain⟨ao,co,rfl⟩:=jZ S8.ror;obtain⟨q,hq⟩:∃q,q=ZU ZT:=⟨_,rfl⟩
   have HQ:=ae hq;rw[<-hq] at Mk;clear hq;obtain⟨H,-,-,-,b3,-⟩:=S8.ab.y;rw[<-HQ.i] at b3;have M:=ae ((BS ZR).alloc ly (N #[U nm] 9));have S9:=ae (S8.aa M ly);have RO:Hid ((ZV ZR (N #[U nm] 9)).ownsRow (z (A w0)) 9 1 (Z ao q co) q (bO (ZT.map (·.e)))):=by have h:=S9.ror;rw[<-HQ.i] at h;exact h
   have JZ:z (A w0)<=z (A (ZV ZR (N #[U nm] 9))):=S9.lt;have HG:Hid (∀ZS:E,(ZV ZR (N #[U nm] 9)).grownBy ZS (Value.slice ao q co).ownBlock->ZS.heap[hb]?=(ZV ZR (N #[U nm] 9)).heap[hb]?/\ZS.heap[z (A w)]?=(ZV ZR (N #[U nm] 9)).heap[z (A w)]?/\ZS.heap[rb]?=(ZV ZR (N #[U nm] 9)).heap[rb]?):=λZS hg=>by
    have ex:∀(i:Nat) (cs:Array ZB) (t:ZK) (fz:Nat × Nat),(ZV ZR (N #[U nm] 9)).heap[i]?=Q (Obj.cells cs t fz)->t≠9->ZS.heap[i]?=(ZV ZR (N #[U nm] 9)).heap[i]?:=λi cs t fz hi ht=>hg.p i (ah hi) λe=>by obtain⟨_,_,Ka,hc⟩:=af RO i e.c;exact ht (ar hi hc)
    exact⟨ex _ _ _ _ S9.ab (by decide),ex _ _ _ _ ((M.p _ (ah Z8)).k Z8) (by decide),ex _ _ _ _ ((M.p _ (ah ZL)).k ZL) (by decide)⟩
   have JS:Hid ((ZV ZR (N #[U nm] 9)).heap[z (A w)]?=Q (N #[J I 0,U ⟨#[]⟩,Z Y 0 0] 88 (0,0))):=(M.p _ (ah Z8)).k Z8;have Li:Hid ((ZV ZR (N #[U nm] 9)).heap[rb]?=Q (N #[J I f,U B,Z Y 0 0] 88 (0,0))):=(M.p _ (ah ZL)).k ZL;have hbw:¬ hb=z (A w):=λe=>by have h:=S8.ab;unfold ShBox at h;rw[e] at h;exact absurd (ar h Z8) (by decide)
   have Fk:¬ (z (A w))=hb:=λe=>hbw e.c;have KH:¬ hb=rb:=λe=>by have h:=S8.ab;unfold ShBox at h;rw[e] at h;exact absurd (ar h ZL) (by decide)
   have LZ:¬ rb=hb:=λe=>KH e.c
   go_wp2_with (first
    |(at_builtin;refine cj _ rfl (.tmp 235) (.tmp 237) 43 rfl (z (A w0)) 9 i1 (U ⟨#[]⟩) 1 16 NH Ln Lp Kn KP rfl (by decide) (Z ao q co) q (bO (ZT.map (·.e))) (by simp[Act.eval]) RO.i (T (z (A ZR)) 0 Y) 1 1 [U nm] (by simp[Act.eval]) rfl (pO ZR _ _) (by simp[Value.oneCell']) (by unfold maxLen;omega) (by omega) JZ ?_;intro v9 w9 G o la;have O9:=ae G;have G9:=ae o;have KV:=ae la;have mv:=ae (HG w9 o);obtain⟨g9,c9,Mm,rfl,KQ⟩:=G.2.resolve_left (λh=>by omega);clear KQ G o la;obtain⟨Mc,-,-,-,f3,-,-,-,-,-,ff⟩:=(ShBox.ad S9.ab mv.1).y;have MR:=ff 3;obtain⟨rl,r0,r1,r2,rf⟩:=bR (mv.2.1.k JS);have Kp:=rf 0;have Le:=rf 1;have KO:=rf 2;obtain⟨pl,p0,p1,p2,pf⟩:=bR (mv.2.2.k Li);clear ff rf pf)
    |fail)
   have JV:=ae (S9.ord (x:=⟨nm,3,f,B,tg,ls⟩) (w':=w9) (v:=Z (Q (T g9 0 Y)) (q+1) c9) (by rw[<-HQ.i];exact G9) (by rw[<-HQ.i];exact O9) (by rw[<-HQ.i];exact KV));refine bp (v:=ZJ #[J I f,U B,Z Y 0 0]) (by simp[results,SU,go_sem,r0,r1,r2]) rfl ?_;have JN:=(qh w9 (T hb 3 Y) (Z (Q (T g9 0 Y)) (q+1) c9) (z (A w)) Fk).k (mv.2.1.k JS);rw[Mf.i];refine⟨L1.set n ⟨m1.e,f,B,ls,Z (Q (T gx 0 Y)) ln cx,ZH⟩,Z (Q (T g 0 Y)) ZQ JQ,Z (Q (T g9 0 Y)) (q+1) c9,Z (Q (T gp 0 Y)) j ZP,rfl,?_,yE L9 aq Lj Lj rfl rfl rfl rfl rfl LX HI,X8.set aq rfl (λk e=>by cases e;exact Mt),?_⟩;{have x0:=JV.1;rw[V5,V5] at x0;replace x0:=x0.ag JN ⟨by decide,by decide,by decide,by decide⟩ D 0 (J I f);have y0:=aw JN (j:=0) (J I f);have x1:=x0.ag y0 ⟨by decide,by decide,by decide,by decide⟩ D 1 (U B);exact x1.ag (aw y0 (j:=1) (U B)) ⟨by decide,by decide,by decide,by decide⟩ D 2 (Z Y 0 0)};{have k0:=((KW.to K8).to (KS.l (X:=XN) M ly S8.lt)).to JV.2;exact((k0.fresh ly D 0 _).fresh ly D 1 _).fresh ly D 2 _}
  focus
   obtain⟨a,k,sv,rfl,⟨s0,s1,Nb,MJ,Ms,JI,JJ⟩,n8⟩:=JH
  rotate_left;focus
   obtain⟨sv,rfl,⟨s0,s1,Nb,MJ,Ms,JI,JJ⟩,n8⟩:=JH
  all_goals
   unfold jl;first|unfold jx|unfold jy
   dsimp only;go_upto_region 30 with fail;generalize hW:World.alloc w8 _=W9;obtain⟨M,-,-⟩:=nb1 hW;have K8:=ae ((K7.to n8).to (KS.l (X:=XN) M ly (nX D (K7.to n8).aa.size)));have Kq:=ae (ShBox.ad JI (M.p _ (ah JI)));have LQ:=ae (K_ JJ M ly);have Z8:Hid (W9.heap[z (A w)]?=Q (N #[J I 0,U ⟨#[]⟩,Z Y 0 0] 88 (0,0))):=by have ZN:=(n8.ad _ _ _ _ O (by decide) (by decide) (by decide) λh=>h).k O;exact(M.p _ (ah ZN)).k ZN
   clear n8 JI JJ M hW;obtain⟨H,-,-,-,-,-,b5,b6,b7,b8,-⟩:=Kq.y;have hbw:¬ hb=z (A w):=λe=>by have h:=Kq.i;unfold ShBox at h;rw[e] at h;exact absurd (ar h Z8) (by decide)
   have Fk:¬ (z (A w))=hb:=λe=>hbw e.c;obtain⟨rl,r0,r1,r2,rf⟩:=bR Z8;have Kp:=rf 0;have Le:=rf 1;have KO:=rf 2;clear rf;first|simp only[jx] at b5 b6 b7|simp only[jy] at b5 b6 b7
   go_wp2_with fail;have Lb:=Jb LQ.i Z8.i (by decide);first|refine bp (v:=ZJ #[J I 6,U ⟨#[]⟩,Z a (ZU c) k]) (by simp[results,SU,go_sem,r0,r1,r2]) rfl ⟨a,k,rfl,?_⟩|refine bp (v:=ZJ #[J I 7,U d,Z Y 0 0]) (by simp[results,SU,go_sem,r0,r1,r2]) rfl ⟨rfl,?_⟩
   refine⟨⟨_,_,_,_,_,(qh _ _ _ _ hbw).k ((qh _ _ _ _ hbw).k ((qh _ _ _ _ hbw).k Kq)),?_⟩,?_⟩
   ·exact aB (aB (aB LQ Lb _ _) Lb _ _) Lb _ _
   ·exact((K8.fresh ly D 0 _).fresh ly D 1 _).fresh ly D 2 _
 ·have Ls:j=60:=JX;subst Ls;have hbw:¬ hb=z (A w):=λe=>by have h:=S5.ab;unfold ShBox at h;rw[e] at h;exact absurd (ar h ro) (by decide)
  have Fk:¬ (z (A w))=hb:=λe=>hbw e.c;obtain⟨rl,r0,r1,r2,rf⟩:=bR ro;have Kp:=rf 0;have Le:=rf 1;have KO:=rf 2;clear rf;go_wp2_with fail;refine bp (v:=ZJ #[J I 7,U nm,Z Y 0 0]) (by simp[results,SU,go_sem,r0,r1,r2]) rfl ?_;have Lv:=aw S5.ab (j:=8) (ZF ZH);have LH:=aw Lv (j:=5) (J I 7);have Ly:=aw LH (j:=6) (U nm);have Mw:=aw Ly (j:=7) (Z Y 0 0);have Kg:z (A w0)<=hb:=S5.hbB;have k8:=(((K5.to (KS.setCell (X:=XN) _ Kg (.inr λcs t fz hc=>.inr (.inr (ar hc S5.ab))) (ZF ZH) (j:=8))).to (KS.setCell (X:=XN) _ Kg (.inr λcs t fz hc=>.inr (.inr (ar hc Lv))) (J I 7) (j:=5))).to (KS.setCell (X:=XN) _ Kg (.inr λcs t fz hc=>.inr (.inr (ar hc LH))) (U nm) (j:=6))).to (KS.setCell (X:=XN) _ Kg (.inr λcs t fz hc=>.inr (.inr (ar hc Ly))) (Z Y 0 0) (j:=7));refine⟨rfl,⟨_,_,_,_,_,(qh _ _ _ _ hbw).k ((qh _ _ _ _ hbw).k ((qh _ _ _ _ hbw).k Mw)),⟨rfl,.inl ⟨rfl,rfl⟩⟩⟩,?_⟩;exact((k8.fresh ly D 0 _).fresh ly D 1 _).fresh ly D 2 _
end
section
variable {w0:E}{S:J_}{a0 a1:O_}{c0 c1 hb:Nat}
def ws{y_:List F_}{q_:List k_}(h:fM L y_ q_)(b:∀m∈L,m.e≠nm)(q:aS q_ nm=Y)(h1:atL y_ nm=Y)(g:m'.e=nm)(r:m'.done=ZH)(l:x.e=nm)(o:m'.M=(dt x).M)(s:m'.H=(dt x).H)(p:m'.V=x.D)(i:m'.sv=Z Y 0 0)(n:Nat):fM ((L++[gG nm]).set (ZU L) m') y_ (q_++[x])/\LExt n L ((L++[gG nm]).set (ZU L) m'):=by
 have f:(L++[gG nm])[ZU L]?=Q (gG nm):=by rw[KK ly,UV];rfl
 refine⟨yE (tj h b (m:=gG nm) rfl rfl) f rfl g l r o s p (dI q) h1,(LExt.add n L (m:=gG nm) rfl).set f g λj e=>?_⟩;rw[i] at e;cases e
def Gf (C:pJ w0 S a0 a1):∀n,oe w0 S hb (Z a0 S.n0 c0) (Z a1 S.n1 c1) n:=by
 have u:∀n,(∀m,n=m+1->oe w0 S hb (Z a0 S.n0 c0) (Z a1 S.n1 c1) m)->oe w0 S hb (Z a0 S.n0 c0) (Z a1 S.n1 c1) n:=by
  intro n ZT y_ q_ L md or st w nm D h hrel ZS f s hn;have hmade:ZU q_<=50000:=by unfold fm at f;omega
  have b:ZU L<=100000:=by have:=hrel.len;omega
  rw[jT];unfold dB;cases h0:aS q_ nm with
  |some e =>obtain⟨k,m,f1,ZZ,Z8,B,ZR⟩:=Ij hrel h0;refine(Gc w nm h b k m f1 ZZ Z8).P ?_;rintro r w'⟨rfl,g,p⟩;exact⟨L,md,or,st,by rw[B,ZR],g,hrel,LExt.refl _ _,p⟩
  |none =>
   cases h1:atL y_ nm with
   |some i =>
    obtain⟨k,m,f1,ZZ,Z8,B⟩:=Ik hrel h1;have G:=s nm B;cases h2:atI (nm1 S.f1) S.n1 nm with
    |none=>rw[h2] at G;cases G
    |some tg=>exact xG C w nm h b (by omega) k m f1 ZZ Z8 tg i h2 h1
   |none =>
    obtain⟨q,y⟩:=Dk hrel h0 h1;dsimp only;unfold eW;cases h2:atI (nm0 S.f0) S.n0 nm with
    |some i =>refine(mI.1 C w nm h b (by omega) q (oZ C.ok h2) 0 (S.f0 i).H (.inr ⟨i,h2,rfl,rfl⟩) 1 (S.f0 i).H).P ?_;rintro r w'⟨j,l,rfl,g,p⟩;have o:=ws hrel y h0 h1 (m':=⟨nm,0,(S.f0 i).H,[],Z Y 0 0,ZH⟩) (x:=⟨nm,1,0,(S.f0 i).H,0,[]⟩) rfl rfl rfl rfl rfl rfl rfl (z (A w));exact⟨_,j,l,st,rfl,g,o.1,o.2,p⟩
    |none =>
     cases h3:atI (nm1 S.f1) S.n1 nm with
     |some t =>
      cases n with
      |zero=>exact mI.2 C w nm h b q h1 t h3 _ (.inl ⟨by omega,rfl⟩)
      |succ m=>exact mI.2 C w nm h b q h1 t h3 _ (.inr ⟨m,D,ZT m rfl,hrel,ZS,f,s,h0,rfl⟩)
     |none =>refine(mI.1 C w nm h b (by omega) q h3 4 nm (.inl ⟨h2,rfl,rfl⟩) 2 ⟨#[]⟩).P ?_;rintro r w'⟨j,l,rfl,g,p⟩;have o:=ws hrel y h0 h1 (m':=⟨nm,4,nm,[],Z Y 0 0,ZH⟩) (x:=⟨nm,2,0,⟨#[]⟩,0,[]⟩) rfl rfl rfl rfl rfl rfl rfl (z (A w));exact⟨_,j,l,st,rfl,g,o.1,o.2,p⟩
 intro n;induction n with
 |zero=>exact u 0 λm e=>by omega
 |succ n H=>exact u (n+1) λm e=>by cases e;exact H
end
