import Derived.Test.YtcnilonhfpimnaaGreatDoorEM
import Derived.WalkSmall
set_option linter.all false
set_option maxRecDepth 1000000
set_option maxHeartbeats 16000000
open Go renaming Addr.mk->T,Value.slice->Y,Value.string->U,Value.int->J,Value.bool->ZF,Value.agg->ZJ,Obj.cells->N,IntKind.i64->I,World->E,Value->ZB,TypeId->ZK,Ending.returned->ZI,World.heap->A,World.ownsRow->ZY,World.alloc->ZV,World.cell?->ZW,World.frozen?->ZX,World.setCell->B,Proofs.Tryz.prog->Pg,Act.put->p_,Calls->Qw
open Option renaming none->Z,some->Q
open Bool renaming false->ZA,true->ZH
open Array renaming size->z
open List renaming length->ZU
namespace Go.Proofs.YtcnilonhfpimnaaGreatDoor.Vp
open Tryz RowKit
variable {m m':SM}{n g j_ b j i size Z9 ZQ:Nat}{w:E}{nm:F_}{L:List SM}{e:ZK}{u:ZB}{x:k_}{l:List ZB}
def wj:∀(L:List SM) (k j:Nat) (m b:SM) (u:ZB),L[k]?=Q m->j<6->smV b=(smV m).set j u->(L.flatMap smV).set (k*6+j) u=(L.set k b).flatMap smV
 |[],k,j,m,b,u,h,_,_=>by simp at h
 |a::L,0,j,m,b,u,h,hj,he=>by simp only[List.getElem?_cons_zero,L8] at h;subst h;simp only[NZ,List.set_cons_zero,UR,IT];rw[WW _ _ (by rw[oG];exact hj),he]
 |a::L,k+1,j,m,b,u,h,hj,he=>by simp only[VH] at h;simp only[NZ,VA];rw[T9 _ _ (by rw[oG];omega),oG,show(k+1)*6+j - 6=k*6+j by omega,wj L k j m b u h hj he]
def Av (h:ZY w b e size (Y (Q (T g 0 Z)) n j_) n l)(u:ZB):(B w (T g j Z) u).ownsRow b e size (Y (Q (T g 0 Z)) n j_) n (l.set j u):=by
 refine⟨by rw[NI];exact h.1,?_⟩;rcases h.2 with⟨f,h0⟩|⟨g',cap',i,f,hb,p,h1,h2,m,o⟩
 {simp at f};{simp only[IN,L8,RJ] at f;obtain⟨⟨rfl,-⟩,-,rfl⟩:=f;refine .inr ⟨g,j_,i.setIfInBounds j u,rfl,hb,aw p u,h1,h2,by simpa using m,?_⟩;rw[RY,YV,o]}
section
variable {w0 w w':E}{hb:Nat}{s0 s1 md or st:ZB}{y_:List F_}{q_:List k_}{L:List SM}
def SI.upd{k:Nat}{b:SM}(h:SI w0 hb s0 s1 w y_ q_ L (Y (Q (T g 0 Z)) (ZU L) j_) or st)(G:L[k]?=Q m)(D:j<6)(ZT:smV b=(smV m).set j u)(ZS:b.done=ZH->w.ownsRow (z (A w0)) 191 3 b.sv (ZU b.V) (eG b.V)):SI w0 hb s0 s1 (B w (T g (k*6+j) Z) u) y_ q_ (L.set k b) (Y (Q (T g 0 Z)) (L.set k b).length j_) or st/\KS (z (A w0)) XN w (B w (T g (k*6+j) Z) u):=by
 obtain⟨l,hgl,cs,q⟩:=af h.X g rfl
 have f:∀{size n:Nat} {p:ZK} {Z9:ZB} {C:List ZB},w.ownsRow (z (A w0)) p size Z9 n C->188≠p->(B w (T g (k*6+j) Z) u).ownsRow (z (A w0)) p size Z9 n C:=λZZ Z8=>aB ZZ (λe=>by
  obtain⟨_,_,r,i⟩:=af ZZ g e
  exact Z8 (ar q i)) _ _
 have s:(L.set k b).length=ZU L:=NI;refine⟨⟨h.ak.setCell l u,h.hbB,?_,?_,f h.ror (by decide),f h.rst (by decide),h.apart,λx o y=>?_⟩,KS.setCell w l (.inr λr t fz i=>.inr (.inl (ar i q))) u⟩
 ·rw[s]
  exact h.ab.ad (qh _ _ _ _ λe=>by
   have H:hb=g:=e
   exact absurd (ar h.ab (H ▸ q)) (by decide))
 {rw[s,<-wj L k j m b u G D ZT];exact Av h.X u};{rcases ON o with o|rfl;{exact f (h.V x o y) (by decide)};{exact f (ZS y) (by decide)}}
def SI.grow{ZP:ZK}{sz m:Nat}{v:ZB}{M:List ZB}(h:SI w0 hb s0 s1 w y_ q_ L md or st)(ZQ:ZY w (z (A w0)) ZP sz u n M)(G:ZP=9\/ZP=188)(C:w.grownBy w' u.ownBlock)(H:ZY w' (z (A w0)) ZP sz v m l):ShBox w' hb s0 s1 md or st 0 ⟨#[]⟩ (Y Z 0 0) ZA/\(∀{size n:Nat} {q:ZK} {s:ZB} {l:List ZB},ZY w (z (A w0)) q size s n l->(q≠ZP\/∀k,s.ownBlock=Q k->u.ownBlock≠Q k)->141≠q->(B w' (T hb j Z) v).ownsRow (z (A w0)) q size s n l)/\(B w' (T hb j Z) v).ownsRow (z (A w0)) ZP sz v m l/\KS (z (A w0)) XN w (B w' (T hb j Z) v):=by
 have Z9:=af ZQ;have Z8:141≠ZP:=by rcases G with rfl|rfl<;>decide
 have O:KS (z (A w0)) XN w w':=KS.of_grown C h.lt λj ZS=>by obtain⟨h1,_,g,h2⟩:=Z9 j ZS;exact⟨h1,.inr λg t fz r=>by rw[ar r h2];exact G.imp id .inl⟩
 have p:∀(i:Nat) (g:Array ZB) (t:ZK) (fz:Nat × Nat),w.heap[i]?=Q (Obj.cells g t fz)->t≠ZP->w'.heap[i]?=w.heap[i]?:=λi g t fz hi K=>C.p i (ah hi) λe=>by obtain⟨_,_,x,h2⟩:=Z9 i e.c;exact K (ar hi h2)
 have b:ShBox w' hb s0 s1 md or st 0 ⟨#[]⟩ (Y Z 0 0) ZA:=h.ab.ad (p _ _ _ _ h.ab Z8);refine⟨b,λ{size n q s l} y f D=>?_,aB H (λe=>?_) _ _,O.to (KS.setCell w' h.hbB (.inr λg t fz r=>.inr (.inr (ar r b))) v)⟩
 ·have ZT:=b9 (w':=w') y λk ZZ=>by
   obtain⟨_,ZR,g,r⟩:=af y k ZZ;rcases f with f|f;{exact p _ _ _ _ r f};{exact C.p k ZR λe=>f k ZZ e.c}
  exact aB ZT (λe=>by
   obtain⟨_,_,x,o⟩:=af ZT hb e
   exact D (ar b o)) _ _
 {obtain⟨_,_,x,o⟩:=af H hb e;exact Z8 (ar b o)}
def SI.addL{v:ZB}(h:SI w0 hb s0 s1 w y_ q_ L md or st)(q:w.grownBy w' md.ownBlock)(p:w'.ownsRow (z (A w0)) 188 6 v (ZU L+1) (L.flatMap smV++smV m))(o:m.done=ZA):SI w0 hb s0 s1 (B w' (T hb 2 Z) v) y_ q_ (L++[m]) v or st/\KS (z (A w0)) XN w (B w' (T hb 2 Z) v):=by
 obtain⟨i,b,l,n⟩:=h.grow (j:=2) h.X (.inr rfl) q p;refine⟨⟨h.ak.k n.aa,h.hbB,aw i v,(by rw[cM,AI,J1,List.flatMap_singleton];exact l),b h.ror (.inl (by decide)) (by decide),b h.rst (.inl (by decide)) (by decide),h.apart,λx g f=>?_⟩,n⟩;rcases p8.1 g with g|g;{exact b (h.V x g f) (.inl (by decide)) (by decide)};{rw[j4.1 g,o] at f;cases f}
def SI.ord{v:ZB}(h:SI w0 hb s0 s1 w y_ q_ L md or st)(p:w.grownBy w' or.ownBlock)(q:w'.ownsRow (z (A w0)) 9 1 v (ZU q_+1) (bO (q_.map (·.e))++[U x.e]))(m:v.ownBlock=or.ownBlock\/v.ownBlock=Q (z (A w))):SI w0 hb s0 s1 (B w' (T hb 3 Z) v) y_ (q_++[x]) L md v st/\KS (z (A w0)) XN w (B w' (T hb 3 Z) v):=by
 obtain⟨g,b,i,o⟩:=h.grow (j:=3) h.ror (.inl rfl) p q;refine⟨⟨h.ak.k o.aa,h.hbB,aw g v,b h.X (.inl (by decide)) (by decide),(by rw[cM,AI];simpa[bO] using i),?_,λk f=>?_,λx r l=>b (h.V x r l) (.inl (by decide)) (by decide)⟩,o⟩;{exact b h.rst (.inr λk n e=>h.apart k e n) (by decide)}
 ·intro e;rcases m with a|a;{exact h.apart k (by rw[<-a];exact f) e}
  ·rw[a] at f;cases f
   have:=(af h.rst _ e).2.1;omega
def SI.push{v:ZB}(h:SI w0 hb s0 s1 w y_ q_ L md or st)(p:w.grownBy w' st.ownBlock)(q:w'.ownsRow (z (A w0)) 9 1 v (ZU y_+1) (bO y_++[U nm]))(m:v.ownBlock=st.ownBlock\/v.ownBlock=Q (z (A w))):SI w0 hb s0 s1 (B w' (T hb 4 Z) v) (y_++[nm]) q_ L md or v/\KS (z (A w0)) XN w (B w' (T hb 4 Z) v):=by
 obtain⟨g,b,i,o⟩:=h.grow (j:=4) h.rst (.inl rfl) p q;refine⟨⟨h.ak.k o.aa,h.hbB,aw g v,b h.X (.inl (by decide)) (by decide),?_,(by rw[cM,AI];simpa[bO] using i),λk f=>?_,λx r l=>b (h.V x r l) (.inl (by decide)) (by decide)⟩,o⟩;{exact b h.ror (.inr λk n e=>h.apart k n e) (by decide)}
 ·intro e;rcases m with a|a;{exact h.apart k f (by rw[<-a];exact e)}
  ·rw[a] at e;cases e
   have:=(af h.ror _ f).2.1;omega
def SI.pop (h:SI w0 hb s0 s1 w (y_++[nm]) q_ L md or (Y (Q (T g 0 Z)) (ZU y_+1) j_)):SI w0 hb s0 s1 (B w (T hb 4 Z) (Y (Q (T g 0 Z)) (ZU y_) j_)) y_ q_ L md or (Y (Q (T g 0 Z)) (ZU y_) j_)/\KS (z (A w0)) XN w (B w (T hb 4 Z) (Y (Q (T g 0 Z)) (ZU y_) j_)):=by
 have b:∀{size n:Nat} {i:ZK} {l:ZB} {m:List ZB},w.ownsRow (z (A w0)) i size l n m->141≠i->(B w (T hb 4 Z) (Y (Q (T g 0 Z)) (ZU y_) j_)).ownsRow (z (A w0)) i size l n m:=λf o=>aB f (λe=>by
  obtain⟨_,_,cs2,j⟩:=af f hb e
  exact o (ar h.ab j)) _ _
 have hst:=h.rst;rw[cM,AI] at hst;refine⟨⟨h.ak.setCell h.hbB _,h.hbB,aw h.ab _,b h.X (by decide),b h.ror (by decide),b (ownsRow_pop (last:=[U nm]) (by simp[bO]) (by simpa[bO] using hst)) (by decide),h.apart,λx q p=>b (h.V x q p) (by decide)⟩,KS.setCell w h.hbB (.inr λcs t fz r=>.inr (.inr (ar r h.ab))) _⟩
end
def yD (h:L.Pairwise λm b=>m.e≠b.e){b:SM}(hi:L[i]?=Q m)(r:L[j]?=Q b)(e:m.e=b.e):i=j:=by
 rw[D0] at h;obtain⟨g,f⟩:=j5.1 hi;obtain⟨n,l⟩:=j5.1 r;rcases VO i j with q|p|o;{exact absurd (by rw[f,l];exact e) (h i j g n q)};{exact p};{exact absurd (by rw[f,l];exact e.c) (h j i n g o)}
def rW (hn:L.Pairwise λm i=>m.e≠i.e)(g:m∈L)(e:m.e=nm):∃k,fI L nm=Q k/\L[k]?=Q m:=by
 obtain⟨k,b⟩:=PD g;refine⟨k,vW b (by rw[e];simp) λj l hj f=>?_,b⟩;cases h:(l.e.toList == nm.toList) with
 |false=>rfl
 |true =>have:=yD hn f b (by rw[Qv h,e]);omega
section
variable {L:List SM}{y_:List F_}{q_:List k_}{nm:F_}
def Ij (h:fM L y_ q_){e:k_}(i:aS q_ nm=Q e):∃k m,fI L nm=Q k/\L[k]?=Q m/\m.done=ZH/\m.M=(dt e).M/\m.H=(dt e).H:=by obtain⟨h1,h2⟩:=iu i;obtain⟨m,b,f,n,l,g,_⟩:=h.got e h1;obtain⟨k,j,o⟩:=rW h.nod b (f.k h2);exact⟨k,m,j,o,n,l,g⟩
def Ik (h:fM L y_ q_)(hi:atL y_ nm=Q i):∃k m,fI L nm=Q k/\L[k]?=Q m/\m.done=ZA/\nm∈y_:=by
 have f:=hi;unfold atL at f;obtain⟨g,h1,_⟩:=SH.1 f;have b:nm∈y_:=by rw[<-Qv h1];exact gz g
 obtain⟨m,j,l,o⟩:=h.mkg nm b;obtain⟨k,n,p⟩:=rW h.nod j l;exact⟨k,m,n,p,o,b⟩
def Dk (h:fM L y_ q_)(g:aS q_ nm=Z)(h1:atL y_ nm=Z):fI L nm=Z/\∀m∈L,m.e≠nm:=by
 have b:∀m∈L,m.e≠nm:=λm f e=>by
  rcases h.all m f with⟨x,l,i⟩|h2;{exact dI g x l (i.k e)};{exact jU h1 _ h2 e}
 refine⟨yB λj m hj f=>?_,b⟩;cases h2:(m.e.toList == nm.toList) with
 |false=>rfl
 |true=>exact absurd (Qv h2) (b m (I5 f))
def tj (h:fM L y_ q_)(j:∀m∈L,m.e≠nm)(i:m.e=nm)(l:m.done=ZA):fM (L++[m]) (y_++[nm]) q_:=by
 refine⟨?_,by simp[h.len];omega,λx o=>?_,λt g=>?_,λy f=>?_⟩;{rw[PC];exact⟨h.nod,VK _ _,λa n b hb=>by rw[j4.1 hb,i];exact j a n⟩};{obtain⟨y,f,r⟩:=h.got x o;exact⟨y,NW _ f,r⟩};{rcases p8.1 g with g|g;{obtain⟨y,f,r⟩:=h.mkg t g;exact⟨y,NW _ f,r⟩};{exact⟨m,PJ _ (j4.2 rfl),by rw[i,j4.1 g],l⟩}};{rcases p8.1 f with f|f;{exact(h.all y f).imp id λh=>NW _ h};{rw[j4.1 f,i];exact .inr (PJ _ (j4.2 rfl))}}
def yE{g:List k_}{k:Nat}{b:SM}(h:fM L (y_++[nm]) g)(Z9:L[k]?=Q m)(ZS:m.e=nm)(o:b.e=nm)(Z8:x.e=nm)(ZQ:b.done=ZH)(P:b.M=(dt x).M)(K:b.H=(dt x).H)(M:b.V=x.D)(O:∀y∈g,y.e≠nm)(h1:atL y_ nm=Z):fM (L.set k b) y_ (g++[x]):=by
 have G:=(j5.1 Z9).1;have H:=(j5.1 Z9).2;have n:∀y∈L,y.e≠nm->y∈L.set k b:=λy f C=>by
  obtain⟨i,hi⟩:=PD f;refine I5 (i:=i) ?_;rw[QZ λe=>?_];{exact hi}
  ·subst e;rw[Z9] at hi;cases hi
   exact C ZS
 have u:b∈L.set k b:=I5 (PE G);refine⟨?_,by rw[NI,h.len];simp;omega,λy f=>?_,λt q=>?_,λy f=>?_⟩;{have l:=h.nod;rw[D0] at l ⊢;have s:∀(i:Nat) (hi:i<(L.set k b).length),(L.set k b)[i].e=(L[i]'(by simpa using hi)).e:=λi hi=>(by rw[List.getElem_set];split;{rename_i e;subst e;rw[H,ZS,o]};{rfl});intro i j hi ZT D;rw[s i hi,s j ZT];exact l i j (by simpa using hi) (by simpa using ZT) D};{rcases p8.1 f with f|f;{obtain⟨ZZ,hz,p,r⟩:=h.got y f;exact⟨ZZ,n ZZ hz (by rw[p];exact O y f),p,r⟩};{rw[j4.1 f];exact⟨b,u,by rw[o,Z8],ZQ,P,K,M⟩}};{obtain⟨ZZ,hz,p,r⟩:=h.mkg t (NW _ q);exact⟨ZZ,n ZZ hz (by rw[p];exact jU h1 t q),p,r⟩};{rcases ON f with ZR|rfl;{rcases h.all y ZR with⟨ZZ,hz,e⟩|h2;{exact .inl ⟨ZZ,NW _ hz,e⟩};{rcases p8.1 h2 with h2|h2;{exact .inr h2};{exact .inl ⟨x,PJ _ (j4.2 rfl),by rw[Z8,j4.1 h2]⟩}}};{exact .inl ⟨x,PJ _ (j4.2 rfl),by rw[Z8,o]⟩}}
end
def oZ{S:xl}(h:SpcOk S)(hi:atI (nm0 S.f0) S.n0 nm=Q i):atI (nm1 S.f1) S.n1 nm=Z:=by
 have b:=h.chk;unfold aR at b;split at b;· omega
 split at b;· omega
 split at b;· omega
 split at b;· omega
 split at b;· omega
 split at b;· omega
 rename_i f;obtain⟨h1,h2⟩:=bu hi;have:=iG (Bool.eq_false_iff.2 f) h1;rw[h2] at this;exact vV this
open Ca
section
variable {w0:E}{S:xl}{a0 a1:O_}{c0 c1 hb:Nat}{md or st:ZB}{y_:List F_}{q_:List k_}{L:List SM}
def Gc (w:E)(nm:F_)(h:SI w0 hb (Y a0 S.n0 c0) (Y a1 S.n1 c1) w y_ q_ L md or st)(t:ZU L<=100000)(k:Nat)(m:SM)(h1:fI L nm=Q k)(h2:L[k]?=Q m)(Z9:m.done=ZH):Qw Pg 120 #[.pointer (Q (T hb 0 Z)),U nm] w λe w'=>e=ZI (ZJ #[J I m.M,U m.H,Y Z 0 0])/\SI w0 hb (Y a0 S.n0 c0) (Y a1 S.n1 c1) w' y_ q_ L md or st/\KS (z (A w0)) XN w w':=by
 obtain⟨p,f⟩:∃W:E,ZV w (N #[J I 0,U ⟨#[]⟩,Y Z 0 0] 88)=W:=⟨_,rfl⟩
 obtain⟨x,kr,-⟩:=nb1 f;have o:=ae f;clear f;have l:=ae (h.aa x ly);have b:z (A w0)<=z (A w):=h.lt;have hkl:=(j5.1 h2).1;obtain⟨g,j_,cur,rfl,-⟩:=h.X.2.resolve_left (λh=>by omega);have D:eh (fI L nm)=(k:Int):=by rw[h1];rfl
 have q:=ae h2;obtain⟨n,hn⟩:∃n,n=ZU L:=⟨_,rfl⟩
 have C:=ae hn;have hkn:k<n:=by omega
 clear h h1 h2 hn;go_enter func120,ntmps120;go_wp2_with fail;rw[o.i];clear o;refine(pI p nm l t).P ?_;rintro e w1⟨rfl,s⟩;rw[s];clear s;rw[D];obtain⟨hbl,-,-,G,-⟩:=l.ab.y;have d1:ZW p (T g (k*6+1) Z)=Q (J I m.M):=cJ l.X q 1 (by omega) rfl;have d2:ZW p (T g (k*6+2) Z)=Q (U m.H):=cJ l.X q 2 (by omega) rfl;have d3:ZW p (T g (k*6+3) Z)=Q (Y Z 0 0):=cJ l.X q 3 (by omega) rfl;have d5:ZW p (T g (k*6+5) Z)=Q (ZF ZH):=by have:=cJ l.X q.i 5 (by omega) (u:=ZF m.done) rfl;rw[Z9] at this;exact this
 rw[<-C.i] at G;obtain⟨rl,r0,r1,Z8,r⟩:=bR kr;have rf0:=r 0;have rf1:=r 1;have rf2:=r 2;have hI0:(0:Int)<=(k:Int):=by omega
 have hI1:(k:Int)<(n:Int):=by omega
 clear r;go_wp2_with fail;refine bp (v:=ZJ #[J I m.M,U m.H,Y Z 0 0]) (by simp[results,SU,go_sem,r0,r1,Z8]) rfl ⟨rfl,?_,?_⟩;{have ZT:=l.ag kr.i ⟨by decide,by decide,by decide,by decide⟩ b 0 (J I m.M);have y:=aw kr.i (j:=0) (J I m.M);have ZZ:=ZT.ag y ⟨by decide,by decide,by decide,by decide⟩ b 1 (U m.H);exact ZZ.ag (aw y (j:=1) (U m.H)) ⟨by decide,by decide,by decide,by decide⟩ b 2 (Y Z 0 0)}
 ·refine((((KS.l (X:=XN) x ly b).k (KS.setCell (X:=λi=>i=z (A w)) _ b (Or.inl rfl) _) ?_).k (KS.setCell (X:=λi=>i=z (A w)) _ b (Or.inl rfl) _) ?_).k (KS.setCell (X:=λi=>i=z (A w)) _ b (Or.inl rfl) _) ?_);all_goals
   intro i hi h;have e2:i=z (A w):=h;omega
def wk{M:List F_}(h:ZY w b 9 1 (Y (Q (T g 0 Z)) n j_) n (bO M)){t:F_}(f:M[i]?=Q t):ZW w (T g i Z)=Q (U t):=by have h1:=h.cells (g:=g) rfl i (U t) (by rw[bO,LR,f];rfl);rw[addr_add,IT] at h1;exact h1
def xG (C:pJ w0 S a0 a1)(w:E)(nm:F_)(h:SI w0 hb (Y a0 S.n0 c0) (Y a1 S.n1 c1) w y_ q_ L md or st)(JP:ZU L<=100000)(Id:ZU y_<=60)(k:Nat)(m:SM)(h1:fI L nm=Q k)(h2:L[k]?=Q m)(hd:m.done=ZA)(tg ZZ:Nat)(ht:atI (nm1 S.f1) S.n1 nm=Q tg)(hi:atL y_ nm=Q ZZ):Qw Pg 120 #[.pointer (Q (T hb 0 Z)),U nm] w λe w'=>mF w0 hb (Y a0 S.n0 c0) (Y a1 S.n1 c1) y_ L w e w' (.inr (.inl (y_.drop ZZ))):=by
 obtain⟨i1,JZ,JQ,JM,JY⟩:=lE pK;obtain⟨W0,O⟩:∃W:E,ZV w (N #[J I 0,U ⟨#[]⟩,Y Z 0 0] 88)=W:=⟨_,rfl⟩
 obtain⟨A0,kr,-⟩:=nb1 O;have ZL:=ae O;clear O;have S0:=ae (h.aa A0 ly);have o:z (A w0)<=z (A w):=h.lt;have hkl:=(j5.1 h2).1;obtain⟨g,j_,cur,rfl,-⟩:=h.X.2.resolve_left (λh=>by omega);have e1:eh (fI L nm)=(k:Int):=by rw[h1];rfl
 have ZO:eh (atI (nm1 S.f1) S.n1 nm)=(tg:Int):=by rw[ht];rfl
 have JO:ZZ<ZU y_/\(∃x,y_[ZZ]?=Q x/\(x.toList == nm.toList)=ZH)/\∀(j:Nat) (y:F_),j<ZZ->y_[j]?=Q y->(y.toList == nm.toList)=ZA:=by unfold atL at hi;obtain⟨q1,q2,q3⟩:=SH.1 hi;refine⟨q1,⟨_,gq q1,q2⟩,λj y hj hy=>?_⟩;have:=q3 j hj;rw[TJ] at this;rw[(j5.1 hy).2] at this;exact this
 obtain⟨GS,⟨xi,qr,At⟩,ld⟩:=JO;obtain⟨ZN,l,cus,rfl,n8⟩:=h.rst.2.resolve_left (λh=>by omega);have J4:ZU y_<=l:=n8.2.2.1;have H2:=ae h2;have J6:=ae qr;have JW:=ae ld;have JK:=ae At;obtain⟨n,hn⟩:∃n,n=ZU L:=⟨_,rfl⟩
 have HN:=ae hn;have hkn:k<n:=by omega
 obtain⟨f,ex⟩:∃f,f=ZU y_:=⟨_,rfl⟩
 have ZT:=ae ex;have CC:=ae C;have hsm:=C.ok.bb;rw[<-ex] at GS Id J4;clear h h1 h2 hn C ht hi n8 ex qr At ld;go_enter func120,ntmps120;go_wp2_with fail;rw[ZL.i];clear ZL;refine(pI W0 nm S0 JP).P ?_;rintro e w1⟨rfl,DE⟩;rw[DE];clear DE;rw[e1];obtain⟨ZP,b0,b1,b2,-⟩:=S0.ab.y;have d5:ZW W0 (T g (k*6+5) Z)=Q (ZF ZA):=by have:=cJ S0.X H2.i 5 (by omega) (u:=ZF m.done) rfl;rw[hd] at this;exact this
 rw[<-HN.i] at b2;have hI0:(0:Int)<=(k:Int):=by omega
 have hI1:(k:Int)<(n:Int):=by omega
 go_wp2_with fail;refine(iP a0 S.n0 c0 a1 S.n1 c1 S.f0 nm W0 (by omega) (CC.src.aa S0.ak ly)).P ?_;rintro e w1⟨rfl,Z9⟩;have S1:=ae (S0.aa Z9 ly);have th:Hid (w1.heap[z (A w)]?=_):=(Z9.p _ (ah kr)).k kr;have K1:=ae (A0.k (Z9.P A0.size));clear Z9 b0 b1 b2 ZP d5;obtain⟨ZP,b0,b1,-⟩:=S1.ab.y;go_wp2_with fail;refine(iQ a0 S.n0 c0 a1 S.n1 c1 S.f1 nm w1 (by omega) (CC.w.aa S1.ak ly)).P ?_;rintro e K⟨he,Z9⟩;rw[ZO] at he;subst he;have s:=ae (S1.aa Z9 ly);have ro:Hid (K.heap[z (A w)]?=_):=(Z9.p _ (ah th)).k th;have K2:=ae (K1.k (Z9.P K1.size));clear Z9 b0 b1 ZP;obtain⟨ZP,-,-,-,-,b4,b5,b6,b7,b8,ZM⟩:=s.ab.y;have JU:=ZM 5;have JI:=ZM 6;have JS:=ZM 7;have JL:=ZM 8;rw[<-ZT.i] at b4;clear ZM;have hT0:(0:Int)<=(tg:Int):=by omega
 go_wp2_with fail;go_loop [9] (λi=>∃j:Nat,j<=ZZ/\i=J I j) (λi=>ZZ - (intOf i).toNat);case atStart=>exact⟨0,by omega,rfl⟩
 case round =>
  obtain⟨j,hj,rfl⟩:=hrel;obtain⟨y,hy⟩:∃y,y_[j]?=Q y:=⟨_,gq (by have:=ZT.i;omega)⟩
  have dj:ZW K (T ZN j Z)=Q (U y):=wk s.rst hy;have hjm:(j:Int)<(f:Int):=by omega
  have HY:=ae hy;clear hy;by_cases JV:j<ZZ;{have JJ:=JW.i j y JV HY.i;have HNE:=ae JJ;go_wp2;exact⟨⟨j+1,by omega,by go_num⟩,by simp[intOf];omega⟩}
  ·obtain rfl:j=ZZ:=by omega
   have hye:(y.toList == nm.toList)=ZH:=by
    have:=HY.i;rw[J6.i] at this;cases this
    exact JK
   go_upto_region 22 with fail;clear dj b4 b5 b6 b7 b8 JU JI JS JL;have ur:=ae (aw s.ab (j:=8) (ZF ZH))
   have R3:Hid ((B K (T hb 8 Z) (ZF ZH)).ownsRow (z (A w0)) 9 1 (Y (Q (T ZN 0 Z)) (ZU y_) l) (ZU y_) (bO y_)):=aB s.rst (λe=>by
    obtain⟨_,_,DQ,D⟩:=af s.rst hb e
    exact absurd (ar s.ab D) (by decide)) _ _
   have hbw:hb≠z (A w):=λe=>absurd (ar s.ab (e ▸ ro.i)) (by decide);have R:Hid ((B K (T hb 8 Z) (ZF ZH)).heap[z (A w)]?=_):=(qh _ _ _ _ (Ne.symm hbw)).k ro;have V:Hid (KS (z (A w0)) XN w (B K (T hb 8 Z) (ZF ZH))):=(KS.l (X:=XN) K2 ly o).to (KS.setCell K s.hbB (.inr λl t fz M=>.inr (.inr (ar M s.ab))) _);have fd:z (A w0)<=hb:=s.hbB;generalize World.setCell K _ _=b at ur R3 R V ⊢;have G:Hid (ShBox b hb (Y a0 S.n0 c0) (Y a1 S.n1 c1) (Y (Q (T g 0 Z)) (ZU L) j_) or (Y (Q (T ZN 0 Z)) (ZU y_) l) 0 ⟨#[]⟩ (Y Z 0 0) ZH):=ur.i;obtain⟨Fm,-,-,-,-,b4,-⟩:=G.y;rw[<-ZT.i] at b4;have LO:=ae (oH b 9 1);have A4:=ae ((BS b).alloc ly (N #[] 9));have JX:Hid (∀q u,(bO (y_.drop j))[q]?=Q u->(ZV b (N #[] 9)).cell? (((T ZN j Z):Addr).add q)=Q u):=λq u hq=>by have h1:=(J_ R3 A4 ly).cells (g:=ZN) rfl (j+q) u (by rw[<-hq,bO,bO,LR,LR,YJ]);rw[addr_add,IT] at h1;rw[addr_add];exact h1
   have hjc:¬ l=j:=by omega
   have hI2:(0:Int)<=(j:Int):=by omega
   have hI3:(j:Int)<=(f:Int):=by omega
   have hI4:(f:Int)<=(l:Int):=by omega
   have Bk:(bO (y_.drop j)).length=(f - j)*1:=by rw[bO,PI,NN,<-ZT.i,Nat.mul_one]
   have JT:=ae Bk;have mv:∀u∈bO (y_.drop j),u.oneCell'=ZH:=λu hu=>by rw[bO,NM] at hu;obtain⟨t,_,rfl⟩:=hu;rfl
   have JG:=ae mv;clear Bk mv;have HG:Hid (∀r:E,(ZV b (N #[] 9)).grownBy r (Q (z (A b)))->r.heap[hb]?=b.heap[hb]?/\r.heap[z (A w)]?=b.heap[z (A w)]?):=λr hg=>by
    have hz:z (A (ZV b (N #[] 9)))=z (A b)+1:=by simp
    have J5:=ah R.i;exact⟨(hg.p hb (by omega) (λe=>by have ZO:hb=z (A b):=IH e;omega)).k (A4.p hb Fm),(hg.p (z (A w)) (by omega) (λe=>by have ZO:z (A w)=z (A b):=IH e;omega)).k (A4.p _ J5)⟩
   have bt:z (A b)<=z (A (ZV b (N #[] 9))):=by simp
   have Hx:(0+(f - j))*16<=140737488355328:=by omega
   have JH:0+(f - j)<=maxLen:=by unfold maxLen;omega
   have Fk:0+(f - j)≠0:=by omega
   go_wp2_with (first
    |(at_builtin;refine cj _ rfl (.tmp 129) (.tmp 135) 43 rfl (z (A b)) 9 i1 (U ⟨#[]⟩) 1 16 NG JZ JQ JM JY rfl (by decide) (Y (Q (T (z (A b)) 0 Z)) 0 0) 0 [] (by simp[Act.eval]) LO.i (T ZN j Z) (f - j) (l - j) (bO (y_.drop j)) (by simp[Act.eval]) JT.i JX.i JG.i JH Hx bt ?_;intro v4 r H p JN;have O4:=ae H;have Fd:=ae (HG r p).1;have ph:=ae (HG r p).2;have G4:=ae p;obtain⟨ZS,c4,cu4,rfl,J0⟩:=H.2.resolve_left (λh=>Fk h.2);clear J0 H p JN;obtain⟨hbl4,-,-,-,-,-,f5,f6,f7,-,ff⟩:=(ShBox.ad G Fd).y;have ff5:=ff 5;have ff6:=ff 6;have ff7:=ff 7;obtain⟨rl,r0,r1,r2,rf⟩:=bR (ph.k R);have rf0:=rf 0;have rf1:=rf 1;have rf2:=rf 2;have hbw2:¬ (z (A w))=hb:=(λe=>hbw e.c);have P:¬ hb=z (A w):=hbw;clear ff rf)
    |fail)
   refine bp (v:=ZJ #[J I 6,U ⟨#[]⟩,Y (Q (T ZS 0 Z)) (f - j) c4]) (by simp[results,SU,go_sem,r0,r1,r2]) rfl ?_;have aq:(y_.drop j).length=f - j:=by rw[NN,<-ZT.i]
   have la:=Fd.k G.i;have sm:=aw la (j:=5) (J I 6);have n9:=aw sm (j:=6) (U ⟨#[]⟩);have JR:=aw n9 (j:=7) (Y (Q (T ZS 0 Z)) (f - j) c4);have ZQ:(Value.slice (Q (T ZS 0 Z)) (f - j) c4).ownBlock≠Q hb:=λe=>by obtain⟨_,_,DQ,D⟩:=af O4 hb (by simpa[Value.ownBlock] using e);exact absurd (ar la D) (by decide)
   have ZR:(Value.slice (Q (T ZS 0 Z)) (f - j) c4).ownBlock≠Q (z (A w)):=λe=>by obtain⟨_,_,DQ,D⟩:=af O4 (z (A w)) (by simpa[Value.ownBlock] using e);exact absurd (ar (ph.k R) D) (by decide)
   have o4:ZY r (z (A w0)) 9 1 (Y (Q (T ZS 0 Z)) (f - j) c4) (f - j) (bO (y_.drop j)):=by have h1:=O4.i;rw[IT,NR] at h1;exact aE h1 (nX o V.aa.size)
   have k4:KS (z (A w0)) XN w r:=(V.to (KS.l (X:=XN) A4 ly (nX o V.aa.size))).to (KS.of_grown G4 (nX (nX o V.aa.size) bt) λq hq=>by
    have ZO:q=z (A b):=(IH hq).c;refine⟨by rw[ZO];exact nX o V.aa.size,.inr λl t fz M=>?_⟩;rw[ZO] at M
    exact .inl (ar M (gM b _)))
   have Z8:∀(W:E) (l:Array ZB) (t:ZK) (fz:Nat × Nat),W.heap[hb]?=r.heap[hb]?\/(∃c2,W.heap[hb]?=Q (N c2 141 (0,0)))->W.heap[hb]?=Q (N l t fz)->t=9\/t=188\/t=141:=λW l t fz hW M=>by
    rcases hW with hW|⟨c2,hW⟩
    {exact .inr (.inr (ar M (hW.k la)))};{exact .inr (.inr (ar M hW))}
   refine⟨Q (T ZS 0 Z),c4,by rw[aq];rfl,⟨_,_,_,_,_,(qh _ _ _ _ P).k ((qh _ _ _ _ P).k ((qh _ _ _ _ P).k (by rw[aq];exact JR))),?_⟩,?_⟩;{show World.ownsRow _ _ _ _ _ (y_.drop j).length _;rw[aq];exact aB (aB (aB (aB (aB (aB o4 ZQ _ _) ZQ _ _) ZQ _ _) ZR _ _) ZR _ _) ZR _ _}
   ·have k7:=((k4.to (KS.setCell (X:=XN) r fd (.inr λl t fz=>Z8 _ l t fz (.inl rfl)) (J I 6) (j:=5))).to (KS.setCell (X:=XN) _ fd (.inr λl t fz=>Z8 _ l t fz (.inr ⟨_,sm⟩)) (U ⟨#[]⟩) (j:=6))).to (KS.setCell (X:=XN) _ fd (.inr λl t fz=>Z8 _ l t fz (.inr ⟨_,n9⟩)) (Y (Q (T ZS 0 Z)) (f - j) c4) (j:=7));refine((k7.k (KS.setCell (X:=λi=>i=z (A w)) _ o (Or.inl rfl) _) ?_).k (KS.setCell (X:=λi=>i=z (A w)) _ o (Or.inl rfl) _) ?_).k (KS.setCell (X:=λi=>i=z (A w)) _ o (Or.inl rfl) _) ?_;all_goals
     intro i hi h;have ZO:i=z (A w):=h;omega
end
def gG (nm:F_):SM:=⟨nm,0,⟨#[]⟩,[],Y Z 0 0,ZA⟩
def Ge (w:E)(n f i g m l:ZB)(t:ZK):∀j u,[n,f,i,g,m,l][j]?=Q u->(ZV w (N #[n,f,i,g,m,l] t)).cell? (((T (z (A w)) 0 Z):Addr).add j)=Q u:=by
 intro j u h;rw[addr_add];have hj:j<6:=by
  rcases OR j 6 with b|b;{exact b};{rw[NT (by simp;omega)] at h;cases h}
 rcases(show j=0\/j=1\/j=2\/j=3\/j=4\/j=5 by omega) with rfl|rfl|rfl|rfl|rfl|rfl;all_goals
  simp at h;subst h;simp
def pO (w:E)(v:ZB)(t:ZK):∀j u,[v][j]?=Q u->(ZV w (N #[v] t)).cell? (((T (z (A w)) 0 Z):Addr).add j)=Q u:=by
 intro j u h;rw[addr_add];have b:j=0:=by
  rcases OR j 1 with f|f;{omega};{rw[NT (by simp;omega)] at h;cases h}
 subst b;simp at h;subst h;simp
def jZ{v:ZB}{f:List ZB}(h:ZY w b e size v n f):∃a j_,v=Y a n j_:=by
 obtain⟨_,⟨rfl,rfl⟩|⟨g,j_,cur,rfl,_⟩⟩:=h;{exact⟨Z,0,rfl⟩};{exact⟨_,_,rfl⟩}
def KS.fresh{W:E}(h:KS Z9 XN W w)(hb:z (A W)<=b)(f:Z9<=z (A W))(j:Nat)(u:ZB):KS Z9 XN W (B w (T b j Z) u):=
 h.k (KS.setCell (X:=λi=>i=b) w (nX f hb) (Or.inl rfl) u) λi hi g=>by have e2:i=b:=g;omega
section
variable {w0 w:E}{hb:Nat}{s0 s1 or st:ZB}{y_:List F_}{q_:List k_}{L:List SM}
def SI.upd'{k:Nat}(l:ZU L=ZQ)(h:SI w0 hb s0 s1 w y_ q_ L (Y (Q (T g 0 Z)) ZQ j_) or st)(b:L[k]?=Q m)(f:j<6)(i:smV m'=(smV m).set j u)(n:m'.done=ZH->w.ownsRow (z (A w0)) 191 3 m'.sv (ZU m'.V) (eG m'.V)):SI w0 hb s0 s1 (B w (T g (k*6+j) Z) u) y_ q_ (L.set k m') (Y (Q (T g 0 Z)) ZQ j_) or st/\KS (z (A w0)) XN w (B w (T g (k*6+j) Z) u)/\(L.set k m')[k]?=Q m'/\(L.set k m').length=ZQ:=by subst l;have:=h.upd b f i n;rw[NI] at this;exact⟨this.1,this.2,PE (j5.1 b).1,NI⟩
def SI.told{k:Nat}(ZZ:ZU L=ZQ)(h:SI w0 hb s0 s1 w y_ q_ L (Y (Q (T g 0 Z)) ZQ j_) or st)(t:L[k]?=Q m)(p:m.done=ZA)(b:Int)(f:F_):SI w0 hb s0 s1 (B (B (B w (T g (k*6+1) Z) (J I b)) (T g (k*6+1+1) Z) (U f)) (T g (k*6+1+2) Z) (Y Z 0 0)) y_ q_ (L.set k ⟨m.e,b,f,m.V,m.sv,ZA⟩) (Y (Q (T g 0 Z)) ZQ j_) or st/\KS (z (A w0)) XN w (B (B (B w (T g (k*6+1) Z) (J I b)) (T g (k*6+1+1) Z) (U f)) (T g (k*6+1+2) Z) (Y Z 0 0))/\(L.set k ⟨m.e,b,f,m.V,m.sv,ZA⟩)[k]?=Q ⟨m.e,b,f,m.V,m.sv,ZA⟩/\(L.set k ⟨m.e,b,f,m.V,m.sv,ZA⟩).length=ZQ:=by obtain⟨a1,Z8,x,o⟩:=h.upd' ZZ t (j:=1) (by omega) (u:=J I b) (m':=⟨m.e,b,m.H,m.V,m.sv,ZA⟩) (by simp[smV,p]) (λh=>by cases h);obtain⟨r,Z9,y,q⟩:=a1.upd' o x (j:=2) (by omega) (u:=U f) (m':=⟨m.e,b,f,m.V,m.sv,ZA⟩) rfl (λh=>by cases h);obtain⟨l,s,n,i⟩:=r.upd' q y (j:=3) (by omega) (m':=⟨m.e,b,f,m.V,m.sv,ZA⟩) (u:=Y Z 0 0) rfl (λh=>by cases h);rw[V5,V5] at l n i;exact⟨l,(Z8.to Z9).to s,n,i⟩
end
def Jt{ZZ:Int}(h0:0<=ZZ)(h1:ZZ<=1048576):IntKind.i64.wrap ZZ=ZZ:=by rw[nL];omega
def Jb{f:Nat}{t:ZK}{v:ZB}{i:List ZB}{j:Array ZB}{fz:Nat × Nat}(h:ZY w f e size v n i)(hb:w.heap[b]?=Q (N j t fz))(g:e≠t):v.ownBlock≠Q b:=λk=>by obtain⟨_,_,cs',l⟩:=af h b k;exact g (ar l hb)
def Jc{w':E}{v:ZB}{b:List ZB}(h:ZY w Z9 191 3 v n b)(g:KS Z9 XN w w'):ZY w' Z9 191 3 v n b:=b9 h λk e=>by obtain⟨_,_,cs,f⟩:=af h k e;exact g.ad _ _ _ _ f (by decide) (by decide) (by decide) λh=>h
def LExt.add (n:Nat)(L:List SM)(h:m.done=ZA):LExt n L (L++[m]):=by
 refine⟨λi g b=>⟨g,?_,rfl⟩,λg b f=>?_⟩;{rw[NH (j5.1 b).1];exact b};{rcases p8.1 b with b|b;{exact .inl ⟨g,b,f,rfl⟩};{rw[j4.1 b,h] at f;cases f}}
def LExt.set{k:Nat}{o:List SM}{f:SM}(h:LExt n L o)(t:o[k]?=Q m)(x:f.e=m.e)(y:∀j,f.sv.ownBlock=Q j->n<=j):LExt n L (o.set k f):=by
 refine⟨λi p b=>?_,λp b q=>?_⟩
 ·obtain⟨u,l,r⟩:=h.nam i p b;by_cases g:k=i
  ·subst g;rw[t] at l;cases l
   exact⟨f,PE (j5.1 t).1,x.k r⟩
  {exact⟨u,by rw[QZ g];exact l,r⟩}
 {rcases ON b with s|rfl;{exact h.sn p s q};{exact .inr y}}
section
variable {w0:E}{S:xl}{a0 a1:O_}{c0 c1 hb:Nat}{md or st:ZB}{y_:List F_}{q_:List k_}{L:List SM}
def mI:(∀(C:pJ w0 S a0 a1) (w:E) (nm:F_) (h:SI w0 hb (Y a0 S.n0 c0) (Y a1 S.n1 c1) w y_ q_ L md or st) (Kg:ZU L<=100000) (LB:ZU q_<=100000) (h1:fI L nm=Z) (h3:atI (nm1 S.f1) S.n1 nm=Z) (f:Int) (tx:F_) (hw:(atI (nm0 S.f0) S.n0 nm=Z/\f=4/\tx=nm)\/∃si,atI (nm0 S.f0) S.n0 nm=Q si/\f=0/\tx=(S.f0 si).H) (kd:Int) (te:F_),Qw Pg 120 #[.pointer (Q (T hb 0 Z)),U nm] w λe w'=>∃JS JU,e=ZI (ZJ #[J I f,U tx,Y Z 0 0])/\SI w0 hb (Y a0 S.n0 c0) (Y a1 S.n1 c1) w' y_ (q_++[⟨nm,kd,0,te,0,[]⟩]) ((L++[gG nm]).set (ZU L) ⟨nm,f,tx,[],Y Z 0 0,ZH⟩) JS JU st/\KS (z (A w0)) XN w w')/\(∀(C:pJ w0 S a0 a1) (w:E) (nm:F_) (h:SI w0 hb (Y a0 S.n0 c0) (Y a1 S.n1 c1) w y_ q_ L md or st) (Kg:ZU L<=100000) (h1:fI L nm=Z) (hi:atL y_ nm=Z) (tg:Nat) (h3:atI (nm1 S.f1) S.n1 nm=Q tg) (X:Out k_) (hd:(ZU y_=60/\X=.inr (.inr nm))\/∃n',ZU y_+(n'+1)=60/\oe w0 S hb (Y a0 S.n0 c0) (Y a1 S.n1 c1) n'/\fM L y_ q_/\PG S y_ q_/\fm S y_ q_ 1/\MT S y_/\aS q_ nm=Z/\X=iF nm tg (bT S (aT S n' (y_++[nm])) tg 201 q_ [] [])),Qw Pg 120 #[.pointer (Q (T hb 0 Z)),U nm] w λe w'=>mF w0 hb (Y a0 S.n0 c0) (Y a1 S.n1 c1) y_ L w e w' X):=by
 refine⟨λC w nm h Kg LB h1 h3 f tx hw kd te=>?_,λC w nm h Kg h1 hi tg h3 X hd=>?_⟩;rotate_left;focus
  rcases hd with⟨JZ,hX⟩|⟨n',LZ,HK,hrel,hp,th,LE,ZN,hX⟩
  case' inl=>(subst hX;have DEEP:=True.intro)
  case' inr =>
   obtain⟨-,aq⟩:=Dk hrel ZN hi;have hmade:ZU q_<=50000:=by unfold fm at th;omega
   have JZ:ZU y_<60:=by omega
   have ro:=(bu h3).1;obtain⟨R,hR⟩:∃R,R=bT S (aT S n' (y_++[nm])) tg 201 q_ [] []:=⟨_,rfl⟩
   have HR:=ae hR;obtain⟨tb,LC,LA,Ln⟩:=C.w.resolve_left (by omega);have Mt:=ae LA;have J4:=ae Ln;have Ky:Hid (∀(W:E) (JS JU Li:ZB) (a:O_) (j_:Nat),SI w0 hb (Y a0 S.n0 c0) (Y a1 S.n1 c1) W (y_++[nm]) q_ (L++[gG nm]) JS JU Li->SlIns w0 a (S.f1 tg).h (S.f1 tg).q->Qw Pg 153 #[.pointer (Q (T hb 0 Z)),ZJ #[Y a (S.f1 tg).h j_]] W λe w'=>pM w0 hb (Y a0 S.n0 c0) (Y a1 S.n1 c1) (y_++[nm]) (L++[gG nm]) W e w' R):=by
    intro W JS JU Li a j_ hS J7;rw[hR];refine F8 C n' HK q_ _ JS JU Li W a j_ tg (by rw[cM,AI];omega) hS (tj hrel aq rfl rfl) (iH hp ZN) ?_ ?_ ro J7
    ·have:=gu ro (bu h3).2 ZN hi
     unfold fm at th ⊢;omega
    ·intro t ht
     rcases p8.1 ht with ht|ht
     ·exact LE t ht
     ·rw[j4.1 ht,h3];rfl
   have HI:=ae hi;have H0:=ae ZN;have LI:Hid (∀ZT x,R=.inl (ZT,x)->ZU ZT<=100000/\∀y∈ZT,y.e≠nm):=by intro ZT x he;rw[hR] at he;have g1:=gS C.ok ro (dm C.ok n' (y_++[nm])) _ _ _ _ _ _ (iH hp ZN) (iv S q_) rfl he;have l:=sP (λq_ Na Lt e=>iq S n' (y_++[nm]) q_ Na Lt e) _ _ _ _ _ _ he;have g3:=gu ro (bu h3).2 ZN hi;refine⟨?_,(jB g1.1).2⟩;unfold fO at l;unfold fm at th;omega
   have LV:=ae aq;have HREL:=ae hrel;subst hX;rw[<-hR];clear HK hp th LE ZN Ln LA hR aq hrel;clear LZ ro
 all_goals
  obtain⟨im,MC,MJ,Fd,Kt⟩:=lE FX;obtain⟨i1,Lo,Ld,Kp,KU⟩:=lE pK;obtain⟨W0,J0⟩:∃W:E,ZV w (N #[J I 0,U ⟨#[]⟩,Y Z 0 0] 88)=W:=⟨_,rfl⟩
  obtain⟨A0,kr,-⟩:=nb1 J0;have Kl:=ae J0;clear J0;have S0:=ae (h.aa A0 ly);have Z8:z (A w0)<=z (A w):=h.lt;have e1:eh (fI L nm)=-1:=by rw[h1];rfl
  obtain⟨am,cm,rfl⟩:=jZ h.X;obtain⟨n,hn⟩:∃n,n=ZU L:=⟨_,rfl⟩
  have HN:=ae hn;have CC:=ae C;have hsm:=C.ok.bb;have hn1:n<=100000:=by omega
  clear h h1 hn C
 rotate_left 2;focus
  have et:eh (atI (nm1 S.f1) S.n1 nm)=-1:=by rw[h3];rfl
  rcases hw with⟨h2,DE,Kk⟩|⟨si,h2,DE,Kk⟩
  case' inl=>have es:eh (atI (nm0 S.f0) S.n0 nm)=-1:=by rw[h2];rfl
  case' inr =>
   have es:eh (atI (nm0 S.f0) S.n0 nm)=(si:Int):=by rw[h2];rfl
   have Mp:=(bu h2).1;obtain⟨sb,so,LP,LM⟩:∃sb so,a0=Q (T sb so Z)/\RowSource w0 sb so S.n0 S.f0:=by
    rcases CC.src with h|⟨b,off,e,hr⟩
    ·omega
    ·exact⟨b,off,e,hr⟩
   have Lg:=ae LM;have MG:=ae LP;clear LM LP
  all_goals
   have LN:=ae Kk;have LH:=ae DE;clear h2 h3 Kk DE
 rotate_left 2;iterate 2
  focus
   obtain⟨es0,es⟩:∃ZZ,eh (atI (nm0 S.f0) S.n0 nm)=ZZ:=⟨_,rfl⟩
   have et:eh (atI (nm1 S.f1) S.n1 nm)=(tg:Int):=by rw[h3];rfl
   have KP:∀(j:Nat) (y:F_),y_[j]?=Q y->(y.toList == nm.toList)=ZA:=λj y hy=>by unfold atL at hi;rw[SJ] at hi;exact hi y (I5 hy)
   have Mw:=ae KP;obtain⟨ms,Ku⟩:∃ms,ms=ZU y_:=⟨_,rfl⟩
   have fd:=ae Ku;have hT0:(0:Int)<=(tg:Int):=by omega
   have ro:=(bu h3).1;rw[<-Ku] at JZ;obtain⟨LD,LL,rfl⟩:=jZ S0.rst;clear h3 hi KP Ku
  rotate_left
 all_goals
  go_enter func120,ntmps120;go_wp2_with fail;rw[Kl.i];clear Kl;refine(pI W0 nm S0 Kg).P ?_;rintro e w1⟨rfl,LQ⟩;rw[LQ,e1];clear LQ e1;obtain⟨H,-,-,b2,-⟩:=S0.ab.y;rw[<-HN.i] at b2;have A1:=ae ((BS W0).alloc ly (N #[U nm,J I 0,U ⟨#[]⟩,Y Z 0 0,Y Z 0 0,ZF ZA] 188));have SA:=ae (S0.aa A1 ly);have RM:=ae (by have h:=SA.X;rw[<-HN.i] at h;exact h);have Mq:z (A (ZV W0 (N #[U nm,J I 0,U ⟨#[]⟩,Y Z 0 0,Y Z 0 0,ZF ZA] 188)))=z (A W0)+1:=by simp
  have HG:Hid (∀ZR:E,(ZV W0 (N #[U nm,J I 0,U ⟨#[]⟩,Y Z 0 0,Y Z 0 0,ZF ZA] 188)).grownBy ZR (Value.slice am n cm).ownBlock->ZR.heap[hb]?=(ZV W0 (N #[U nm,J I 0,U ⟨#[]⟩,Y Z 0 0,Y Z 0 0,ZF ZA] 188)).heap[hb]?):=λZR hg=>hg.p hb (by omega) λe=>by obtain⟨_,_,cs,hc⟩:=af RM hb e.c;exact absurd (ar SA.ab hc) (by decide)
  have Mk:z (A w0)<=z (A (ZV W0 (N #[U nm,J I 0,U ⟨#[]⟩,Y Z 0 0,Y Z 0 0,ZF ZA] 188))):=SA.lt;have hz1':z (A W0)<z (A (ZV W0 (N #[U nm,J I 0,U ⟨#[]⟩,Y Z 0 0,Y Z 0 0,ZF ZA] 188))):=by omega
  clear Mq
  go_upto_region 7 with (first
   |(at_builtin;refine cj _ rfl (.tmp 46) (.tmp 49) 139 rfl (z (A w0)) 188 im (ZJ #[U ⟨#[]⟩,J I 0,U ⟨#[]⟩,Y Z 0 0,Y Z 0 0,ZF ZA]) 6 96 underlying139 MC MJ Fd Kt rfl (by decide) (Y am n cm) n (L.flatMap smV) (by simp[Act.eval]) RM.i (T (z (A W0)) 0 Z) 1 1 [U nm,J I 0,U ⟨#[]⟩,Y Z 0 0,Y Z 0 0,ZF ZA] (by simp[Act.eval]) rfl (Ge W0 _ _ _ _ _ _ _) (by simp[Value.oneCell']) (by unfold maxLen;omega) (by omega) Mk ?_;intro v2 ZR G o la;have O2:=ae G;have G2:=ae o;have Lv:=ae (HG ZR o);obtain⟨l,Fm,cu2,rfl,My⟩:=G.2.resolve_left (λh=>by omega);clear My G o la;obtain⟨Mh,-,-,f2,-,-,-,-,-,-,ff⟩:=(ShBox.ad SA.ab Lv).y;have Nd:=ff 2;clear ff)
   |fail)
  have SX:=ae (SA.addL (m:=gG nm) (w':=ZR) (v:=Y (Q (T l 0 Z)) (n+1) Fm) (by rw[<-HN.i];exact G2) (by rw[<-HN.i];exact O2) rfl);have S3:=ae SX.1;have K3:Hid (KS (z (A w0)) XN w (B ZR (T hb 2 Z) (Y (Q (T l 0 Z)) (n+1) Fm))):=((KS.l (X:=XN) A0 ly Z8).to (KS.l A1 ly S0.lt)).to SX.2;have J9:Hid ((B ZR (T hb 2 Z) (Y (Q (T l 0 Z)) (n+1) Fm)).heap[z (A w)]?=Q (N #[J I 0,U ⟨#[]⟩,Y Z 0 0] 88 (0,0))):=by have ZN:=(A1.p _ (ah kr)).k kr;exact(SX.2.ad _ _ _ _ ZN (by decide) (by decide) (by decide) λh=>h).k ZN
  have bt:(L++[gG nm]).length=n+1:=by rw[cM,AI,<-HN.i]
  have ex:Hid ((L++[gG nm])[n]?=Q (gG nm)):=by rw[HN.i];show _=_;rw[KK ly,UV];rfl
  clear SX f2 Nd Mh b2 H RM SA A1 HG O2 G2 Lv;generalize World.setCell ZR _ _=W3 at S3 K3 J9 ⊢;obtain⟨H,b0,b1,-⟩:=S3.ab.y;go_wp2_with fail;refine(iP a0 S.n0 c0 a1 S.n1 c1 S.f0 nm W3 (by omega) (CC.src.aa S3.ak ly)).P ?_;rintro e w4⟨he,hB⟩;rw[es] at he;subst he;have S4:=ae (S3.aa hB ly);have Lh:Hid (w4.heap[z (A w)]?=_):=(hB.p _ (ah J9)).k J9;have K4:=ae (K3.to (KS.l (X:=XN) hB ly S3.lt));clear hB b0 b1 H S3 K3 J9;obtain⟨H,b0,b1,-⟩:=S4.ab.y;go_wp2_with fail;refine(iQ a0 S.n0 c0 a1 S.n1 c1 S.f1 nm w4 (by omega) (CC.w.aa S4.ak ly)).P ?_;rintro e ZO⟨he,hB⟩;rw[et] at he;subst he;have S5:=ae (S4.aa hB ly);have qr:Hid (ZO.heap[z (A w)]?=Q (N #[J I 0,U ⟨#[]⟩,Y Z 0 0] 88 (0,0))):=(hB.p _ (ah Lh)).k Lh;have K5:=ae (K4.to (KS.l (X:=XN) hB ly S4.lt));clear hB b0 b1 H S4 K4 Lh A0 S0 kr
 iterate 2
  ·first
    |guard_hyp Lg
     have A5:=ae ((BS ZO).alloc ly (N #[J I 4,U nm,Y Z 0 0] 88));have Kn:=ae (S5.aa A5 ly);have hI0:(0:Int)<=(si:Int):=by omega
     have hI1:(si:Int)<(S.n0:Int):=by omega
     have q0:ZW (ZV ZO (N #[J I 4,U nm,Y Z 0 0] 88)) (T hb 0 Z)=Q (Y (Q (T sb so Z)) S.n0 c0):=by have h:=Kn.ab.y.2.1;rw[MG.i] at h;exact h
     have q1:ZW (ZV ZO (N #[J I 4,U nm,Y Z 0 0] 88)) (T sb (so+si*2+1) Z)=Q (U tx):=by rw[LN.i];exact((Lg.aa Kn.ak ly).2 si Mp).2
     have H:=S5.ab.y.1;have ql:sb<z (A ZO):=lj Lg.1 S5.lt;go_upto_region 13 with fail;clear q0 q1 ql H A5 Kn;obtain⟨s,JX⟩:∃W:E,ZV ZO (N #[J I 0,U tx,Y Z 0 0] 88)=W:=⟨_,rfl⟩
     obtain⟨A6,-,-⟩:=nb1 JX;have J5:=ae JX;clear JX;have ZM:Hid (s.heap[z (A ZO)]?=Q (N #[J I f,U tx,Y Z 0 0] 88 (0,0))):=by rw[<-J5.i];rw[LH.i];exact gM _ _
     rw[J5.i];clear J5
    |skip
     go_upto_region 13 with fail;have ZM:Hid ((ZV ZO (N #[J I 4,U nm,Y Z 0 0] 88)).heap[z (A ZO)]?=Q (N #[J I f,U tx,Y Z 0 0] 88 (0,0))):=by rw[LH.i,LN.i];exact gM _ _
     have A6:=ae ((BS ZO).alloc ly (N #[J I 4,U nm,Y Z 0 0] 88));generalize World.alloc ZO _=s at A6 ZM ⊢
   have P:=ae (S5.aa A6 ly);have ph:Hid (s.heap[z (A w)]?=Q (N #[J I 0,U ⟨#[]⟩,Y Z 0 0] 88 (0,0))):=(A6.p _ (ah qr)).k qr;have K6:=ae (K5.to (KS.l (X:=XN) A6 ly S5.lt));obtain⟨rb,JV⟩:∃rb,rb=z (A ZO):=⟨_,rfl⟩
   rw[<-JV] at ZM ⊢;have Mg:z (A w)<=rb:=by have:=K5.aa.size;omega
   clear JV A6 S5 qr K5;obtain⟨H,-,-,b2,-⟩:=P.ab.y;obtain⟨rl,r0,r1,r2,-⟩:=bR ZM;obtain⟨Mb,Me,Kc,DQ⟩:=af P.X l rfl;have At:=ae DQ;have R6:=ae (by have h:=P.X;rw[bt] at h;exact h);have q1:ZW s (T l (n*6+1) Z)=Q (J I 0):=cJ (by rw[bt];exact R6) ex 1 (by omega) rfl;have q2:ZW s (T l (n*6+1+1) Z)=Q (U ⟨#[]⟩):=cJ (by rw[bt];exact R6) ex 2 (by omega) rfl;have q3:ZW s (T l (n*6+1+2) Z)=Q (Y Z 0 0):=cJ (by rw[bt];exact R6) ex 3 (by omega) rfl;have qf:∀j,ZX s (T l j Z)=ZA:=λj=>by simp[World.frozen?,DQ]
   have Kr:=qf (n*6+1);have KV:=qf (n*6+1+1);have KJ:=qf (n*6+1+2);clear qf DQ;have MN:(n:Int)<(n:Int)+1:=by omega
   have ld:l≠hb:=by intro e;have h:=At.i;rw[e] at h;exact absurd (ar h P.ab) (by decide)
   have r:l≠rb:=by intro e;have h:=At.i;rw[e] at h;exact absurd (ar h ZM) (by decide)
   refine wp_region_held_drew (S:=λV=>ZW V (T hb 2 Z)=Q (Y (Q (T l 0 Z)) (n+1) Fm)/\ZW V (T rb 0 Z)=Q (J I f)/\ZW V (T rb 1 Z)=Q (U tx)/\ZW V (T rb 2 Z)=Q (Y Z 0 0)) (by kernel_rfl) ⟨b2,r0,r1,r2⟩ λhS=>?_;have HS:=ae hS;clear hS
   iterate 8
    first|refine aN 0 (v:=?_) rfl rfl (by kernel_rfl) (λ_ _ _ h=>h) rfl ?_ HS ?_|refine aN 4 (v:=?_) rfl rfl (by kernel_rfl) (λ_ _ _ h=>h) rfl ?_ HS ?_
    rotate_left
    ·(rintro wz⟨s0,s1,s2,s3⟩;go_simp)
     (try with_reducible rfl)
    (try simp only[p_,z_])
   have TL:=ae (P.told bt ex rfl f tx)
   have JN:Hid ((B (B (B s (T l (n*6+1) Z) (J I f)) (T l (n*6+1+1) Z) (U tx)) (T l (n*6+1+2) Z) (Y Z 0 0)).drew.cell? (T hb 2 Z)=Q (Y (Q (T l 0 Z)) (n+1) Fm)/\(B (B (B s (T l (n*6+1) Z) (J I f)) (T l (n*6+1+1) Z) (U tx)) (T l (n*6+1+2) Z) (Y Z 0 0)).drew.cell? (T rb 0 Z)=Q (J I f)/\(B (B (B s (T l (n*6+1) Z) (J I f)) (T l (n*6+1+1) Z) (U tx)) (T l (n*6+1+2) Z) (Y Z 0 0)).drew.cell? (T rb 1 Z)=Q (U tx)/\(B (B (B s (T l (n*6+1) Z) (J I f)) (T l (n*6+1+1) Z) (U tx)) (T l (n*6+1+2) Z) (Y Z 0 0)).drew.cell? (T rb 2 Z)=Q (Y Z 0 0)):=
    ⟨(K_ _ _ _ _ ld).k ((K_ _ _ _ _ ld).k ((K_ _ _ _ _ ld).k b2)),(K_ _ _ _ _ r).k ((K_ _ _ _ _ r).k ((K_ _ _ _ _ r).k r0)),(K_ _ _ _ _ r).k ((K_ _ _ _ _ r).k ((K_ _ _ _ _ r).k r1)),(K_ _ _ _ _ r).k ((K_ _ _ _ _ r).k ((K_ _ _ _ _ r).k r2))⟩
   refine aL (i:=8) rfl (by kernel_rfl) λK hK=>?_;go_simp;refine hK _ _ JN ?_;clear hK K HS q1 q2 q3 Kr KV KJ b2 r0 r1 r2 rl
   (try simp only[p_])
   refine wpAnyH_done (by kernel_rfl) ?_ _;have D7:Hid (Below (z (A (B (B (B s (T l (n*6+1) Z) (J I f)) (T l (n*6+1+1) Z) (U tx)) (T l (n*6+1+2) Z) (Y Z 0 0)))) (B (B (B s (T l (n*6+1) Z) (J I f)) (T l (n*6+1+1) Z) (U tx)) (T l (n*6+1+2) Z) (Y Z 0 0)) (B (B (B s (T l (n*6+1) Z) (J I f)) (T l (n*6+1+1) Z) (U tx)) (T l (n*6+1+2) Z) (Y Z 0 0)).drew):=br.drew;have S7:=ae (TL.1.aa D7 ly);have K7:=ae (K6.to (TL.2.1.to (KS.l (X:=XN) D7 ly TL.1.lt)));have JL:=TL.2.2.1;have JP:=TL.2.2.2;have O:Hid ((B (B (B s (T l (n*6+1) Z) (J I f)) (T l (n*6+1+1) Z) (U tx)) (T l (n*6+1+2) Z) (Y Z 0 0)).drew.heap[z (A w)]?=Q (N #[J I 0,U ⟨#[]⟩,Y Z 0 0] 88 (0,0))):=by have ZN:=(TL.2.1.ad _ _ _ _ ph (by decide) (by decide) (by decide) λh=>h).k ph;exact ZN
   have mv:Hid ((B (B (B s (T l (n*6+1) Z) (J I f)) (T l (n*6+1+1) Z) (U tx)) (T l (n*6+1+2) Z) (Y Z 0 0)).drew.heap[rb]?=Q (N #[J I f,U tx,Y Z 0 0] 88 (0,0))):=by have ZN:=(TL.2.1.ad _ _ _ _ ZM (by decide) (by decide) (by decide) λh=>h).k ZM;exact ZN
   have Hx:=ae JL;have GS:=ae JP;clear TL JN JL JP ph ZM K6 P R6 At D7;generalize World.drew (World.setCell (World.setCell (World.setCell s _ _) _ _) _ _)=W7 at S7 K7 O mv ⊢;obtain⟨H,-,-,b2,-⟩:=S7.ab.y;obtain⟨J8,Kd,LG,sm⟩:=af S7.X l rfl;have q5:ZW W7 (T l (n*6+5) Z)=Q (ZF ZA):=cJ (by have h:=S7.X;rw[GS.i] at h ⊢;exact h) Hx 5 (by omega) rfl;have Kz:ZX W7 (T l (n*6+5) Z)=ZA:=by simp[World.frozen?,sm]
   have TD:=ae (S7.upd' GS Hx (j:=5) (by omega) (u:=ZF ZH) (m':=⟨nm,f,tx,[],Y Z 0 0,ZH⟩) rfl (λ_=>⟨rfl,.inl ⟨rfl,rfl⟩⟩));have D:Hid ((B W7 (T l (n*6+5) Z) (ZF ZH)).heap[z (A w)]?=Q (N #[J I 0,U ⟨#[]⟩,Y Z 0 0] 88 (0,0))):=(TD.2.1.ad _ _ _ _ O (by decide) (by decide) (by decide) λh=>h).k O;have ZL:Hid ((B W7 (T l (n*6+5) Z) (ZF ZH)).heap[rb]?=Q (N #[J I f,U tx,Y Z 0 0] 88 (0,0))):=(TD.2.1.ad _ _ _ _ mv (by decide) (by decide) (by decide) λh=>h).k mv;have S8:=ae TD.1;have K8:=ae (K7.to TD.2.1);clear sm;go_upto_region 15 with fail;clear b2 q5 Kz TD S7 K7 O mv;generalize World.setCell W7 _ _=ZS at S8 K8 D ZL ⊢;obtain⟨ao,co,rfl⟩:=jZ S8.ror;obtain⟨q,hq⟩:∃q,q=ZU q_:=⟨_,rfl⟩
   have HQ:=ae hq;rw[<-hq] at LB;clear hq;obtain⟨H,-,-,-,b3,-⟩:=S8.ab.y;rw[<-HQ.i] at b3;have M:=ae ((BS ZS).alloc ly (N #[U nm] 9));have S9:=ae (S8.aa M ly);have RO:=ae (by have h:=S9.ror;rw[<-HQ.i] at h;exact h);have J6:z (A w0)<=z (A (ZV ZS (N #[U nm] 9))):=S9.lt;have HG:Hid (∀ZR:E,(ZV ZS (N #[U nm] 9)).grownBy ZR (Value.slice ao q co).ownBlock->ZR.heap[hb]?=(ZV ZS (N #[U nm] 9)).heap[hb]?/\ZR.heap[z (A w)]?=(ZV ZS (N #[U nm] 9)).heap[z (A w)]?/\ZR.heap[rb]?=(ZV ZS (N #[U nm] 9)).heap[rb]?):=λZR hg=>by
    have aq:∀(i:Nat) (cs:Array ZB) (t:ZK) (fz:Nat × Nat),(ZV ZS (N #[U nm] 9)).heap[i]?=Q (Obj.cells cs t fz)->t≠9->ZR.heap[i]?=(ZV ZS (N #[U nm] 9)).heap[i]?:=λi cs t fz hi ht=>hg.p i (ah hi) λe=>by obtain⟨_,_,Kc,hc⟩:=af RO i e.c;exact ht (ar hi hc)
    exact⟨aq _ _ _ _ S9.ab (by decide),aq _ _ _ _ ((M.p _ (ah D)).k D) (by decide),aq _ _ _ _ ((M.p _ (ah ZL)).k ZL) (by decide)⟩
   have JW:Hid ((ZV ZS (N #[U nm] 9)).heap[z (A w)]?=Q (N #[J I 0,U ⟨#[]⟩,Y Z 0 0] 88 (0,0))):=(M.p _ (ah D)).k D;have Lr:Hid ((ZV ZS (N #[U nm] 9)).heap[rb]?=Q (N #[J I f,U tx,Y Z 0 0] 88 (0,0))):=(M.p _ (ah ZL)).k ZL;have hbw:¬ hb=z (A w):=λe=>by have h:=S8.ab;unfold ShBox at h;rw[e] at h;exact absurd (ar h D) (by decide)
   have Bk:¬ (z (A w))=hb:=λe=>hbw e.c;have KT:¬ hb=rb:=λe=>by have h:=S8.ab;unfold ShBox at h;rw[e] at h;exact absurd (ar h ZL) (by decide)
   have Mf:¬ rb=hb:=λe=>KT e.c
   go_wp2_with (first
    |(at_builtin;refine cj _ rfl (.tmp 100) (.tmp 102) 43 rfl (z (A w0)) 9 i1 (U ⟨#[]⟩) 1 16 NG Lo Ld Kp KU rfl (by decide) (Y ao q co) q (bO (q_.map (·.e))) (by simp[Act.eval]) RO.i (T (z (A ZS)) 0 Z) 1 1 [U nm] (by simp[Act.eval]) rfl (pO ZS _ _) (by simp[Value.oneCell']) (by unfold maxLen;omega) (by omega) J6 ?_;intro v9 w9 G o la;have O9:=ae G;have G9:=ae o;have KN:=ae la;have n9:=ae (HG w9 o);obtain⟨g9,c9,MR,rfl,Le⟩:=G.2.resolve_left (λh=>by omega);clear Le G o la;obtain⟨LX,-,-,-,f3,-,-,-,-,-,ff⟩:=(ShBox.ad S9.ab n9.1).y;have Mx:=ff 3;obtain⟨rl,r0,r1,r2,rf⟩:=bR (n9.2.1.k JW);have KH:=rf 0;have Ko:=rf 1;have KM:=rf 2;obtain⟨pl,p0,p1,p2,pf⟩:=bR (n9.2.2.k Lr);clear ff rf pf)
    |fail)
   have JT:=ae (S9.ord (x:=⟨nm,kd,0,te,0,[]⟩) (w':=w9) (v:=Y (Q (T g9 0 Z)) (q+1) c9) (by rw[<-HQ.i];exact G9) (by rw[<-HQ.i];exact O9) (by rw[<-HQ.i];exact KN));refine bp (v:=ZJ #[J I f,U tx,Y Z 0 0]) (by simp[results,SU,go_sem,r0,r1,r2]) rfl ?_;have JM:=(qh w9 (T hb 3 Z) (Y (Q (T g9 0 Z)) (q+1) c9) (z (A w)) Bk).k (n9.2.1.k JW);refine⟨Y (Q (T l 0 Z)) (n+1) Fm,Y (Q (T g9 0 Z)) (q+1) c9,rfl,?_,?_⟩
   ·rw[<-HN.i]
    have x0:=JT.1;rw[V5] at x0;replace x0:=x0.ag JM ⟨by decide,by decide,by decide,by decide⟩ Z8 0 (J I f);have y0:=aw JM (j:=0) (J I f);have x1:=x0.ag y0 ⟨by decide,by decide,by decide,by decide⟩ Z8 1 (U tx);exact x1.ag (aw y0 (j:=1) (U tx)) ⟨by decide,by decide,by decide,by decide⟩ Z8 2 (Y Z 0 0)
   ·have k0:=(K8.to (KS.l (X:=XN) M ly S8.lt)).to JT.2
    exact((k0.fresh ly Z8 0 _).fresh ly Z8 1 _).fresh ly Z8 2 _
 all_goals
  obtain⟨H,-,-,-,-,b4,b5,b6,b7,b8,bf⟩:=S5.ab.y;have Kq:=bf 4;have Mv:=bf 5;have Ml:=bf 6;have MU:=bf 7;have Mm:=bf 8;rw[<-fd.i] at b4;clear bf;go_wp2_with fail;go_loop [9] (λi=>∃j:Nat,j<=ms/\i=J I j) (λi=>ms - (intOf i).toNat);case atStart=>exact⟨0,by omega,rfl⟩
  case' round =>
  obtain⟨j,hj,rfl⟩:=hrel;by_cases hlt:j<ms
  ·obtain⟨y,hy⟩:∃y,y_[j]?=Q y:=⟨_,gq (by have:=fd.i;omega)⟩
   obtain⟨gs,cs,cus,ev,-⟩:=S5.rst.2.resolve_left (λh=>by have:=fd.i;omega);rw[<-fd.i] at ev;cases ev
   have dj:ZW ZO (T gs j Z)=Q (U y):=wk S5.rst hy;have hjm:(j:Int)<(ms:Int):=by omega
   have LV:=ae (Mw j y hy);clear hy;have aq:=LV.i;go_wp2;exact⟨⟨j+1,by omega,by go_num⟩,by simp[intOf];omega⟩
  obtain rfl:j=ms:=by omega
 ·have hI60:¬ (60:Int)<=(j:Int):=by omega
  clear b5 b6 b7 b8 Mv Ml MU Mm;have A6:=ae ((BS ZO).alloc ly (N #[U nm] 9));have P:=ae (S5.aa A6 ly);have RS:=ae (by have h:=P.rst;rw[<-fd.i] at h;exact h);have La:z (A w0)<=z (A (ZV ZO (N #[U nm] 9))):=P.lt;obtain⟨q0,aa,ca,q1,-⟩:=(J4.aa P.ak ly).2 tg ro;obtain⟨-,aa',ca',LJ,J7⟩:=J4.2 tg ro;have JY:=J4.1;have e1:=(P.ak.O (p:=(T tb (LC+tg*2+1) Z)) JY).k LJ;rw[q1] at e1;simp only[L8,IN,TX] at e1;obtain⟨rfl,rfl⟩:=e1;have Mr:=ae J7;have Q1:=ae q1;clear q0 q1 LJ J7;have Lm:Hid ((ZV ZO (N #[U nm] 9)).heap[z (A w)]?=Q (N #[J I 0,U ⟨#[]⟩,Y Z 0 0] 88 (0,0))):=(A6.p _ (ah qr)).k qr;have HG:Hid (∀ZR:E,(ZV ZO (N #[U nm] 9)).grownBy ZR (Value.slice LD j LL).ownBlock->ZR.heap[hb]?=(ZV ZO (N #[U nm] 9)).heap[hb]?/\ZR.heap[tb]?=(ZV ZO (N #[U nm] 9)).heap[tb]?):=λZR hg=>by
   refine⟨hg.p hb (ah P.ab) λe=>?_,hg.p tb (lj JY La) λe=>?_⟩;{obtain⟨_,_,Kc,hc⟩:=af RS hb e.c;exact absurd (ar P.ab hc) (by decide)};{have:=(af RS tb e.c).1;omega}
  have Ms:z (A w0)<=hb:=S5.hbB;have htbh:¬ tb=hb:=by omega
  have htbh':¬ hb=tb:=by omega
  have htI:(tg:Int)<(S.n1:Int):=by omega
  go_wp2_with (first
   |(at_builtin;refine cj _ rfl (.tmp 166) (.tmp 168) 43 rfl (z (A w0)) 9 i1 (U ⟨#[]⟩) 1 16 NG Lo Ld Kp KU rfl (by decide) (Y LD j LL) j (bO y_) (by simp[Act.eval]) RS.i (T (z (A ZO)) 0 Z) 1 1 [U nm] (by simp[Act.eval]) rfl (pO ZO _ _) (by simp[Value.oneCell']) (by unfold maxLen;omega) (by omega) La ?_;intro v7 w7 G o la;have O7:=ae G;have G7:=ae o;have LF:=ae la;have Ll:=ae (HG w7 o);obtain⟨g7,c7,cu7,rfl,MY⟩:=G.2.resolve_left (λh=>by omega);clear MY G o la;obtain⟨Lc,-,f1,-,-,f4,-,-,-,-,ff⟩:=(ShBox.ad P.ab Ll.1).y;have Nb:=ff 4;rw[Mt.i] at f1;have f9:=(cq (a:=(T tb (LC+tg*2+1) Z)) Ll.2).k Q1.i;have Nf:tb<z (A w7):=(lj (lj JY Ms) (TQ Lc));clear ff)
   |fail)
  have SP:=ae (P.push (nm:=nm) (w':=w7) (v:=Y (Q (T g7 0 Z)) (j+1) c7) (by rw[<-fd.i];exact G7) (by rw[<-fd.i];exact O7) (by rw[<-fd.i];exact LF));have S7:=ae SP.1;have K7:Hid (KS (z (A w0)) XN w (B w7 (T hb 4 Z) (Y (Q (T g7 0 Z)) (j+1) c7))):=(K5.to (KS.l (X:=XN) A6 ly S5.lt)).to SP.2;have O:Hid ((B w7 (T hb 4 Z) (Y (Q (T g7 0 Z)) (j+1) c7)).heap[z (A w)]?=Q (N #[J I 0,U ⟨#[]⟩,Y Z 0 0] 88 (0,0))):=(SP.2.ad _ _ _ _ Lm (by decide) (by decide) (by decide) λh=>h).k Lm;clear SP f1 f4 f9 Nb Lc Nf O7 G7 LF Ll HG RS P A6 Lm Q1 S5 K5 qr b4 Kq H;generalize World.setCell w7 _ _=W7 at S7 K7 O ⊢;refine(Ky W7 _ _ _ aa ca S7 Mr).P ?_;clear Ky;rintro e w8 JJ;rcases R with⟨ZT,x⟩|c|d
  ·obtain⟨L1,md1,Nc,st1,gx,cx,rfl,JQ,ur,Ki,Ma,Lp,n8⟩:=JJ;obtain⟨Md,KO⟩:=LI.i ZT x rfl;clear LI;obtain⟨f,DE⟩:∃f,f=x.1.M:=⟨_,rfl⟩
   obtain⟨Z9,Lb⟩:∃Z9,Z9=x.1.H:=⟨_,rfl⟩
   obtain⟨ls,Kj⟩:∃ls,ls=x.2:=⟨_,rfl⟩
   obtain⟨ln,Kb⟩:∃ln,ln=ZU ls:=⟨_,rfl⟩
   have Km:iF nm tg (.inl (ZT,x))=.inl ((ZT++[⟨nm,3,f,Z9,tg,ls⟩]),⟨nm,3,f,Z9,tg,ls⟩):=by rw[DE,Lb,Kj];rfl
   have L9:=ae Km;rw[<-Kj,<-Kb] at Ki;rw[<-DE,<-Lb,<-Kj,<-Kb];clear Km DE Lb Kj;have Mj:=ae Kb;clear Kb;obtain⟨m1,Fd,Fk⟩:=Lp.nam n (gG nm) ex;replace Fk:m1.e=nm:=Fk;have Mn:Hid (m1.done=ZA):=by
    obtain⟨m2,Kt,e2,e3⟩:=ur.mkg nm (PJ _ (j4.2 rfl));obtain⟨i2,KI⟩:=PD Kt;have e4:=yD ur.nod KI Fd (e2.k Fk.c);rw[e4,Fd] at KI;cases KI
    exact e3
   have ex:=ae Fd;obtain⟨ZQ,hN⟩:∃ZQ,ZQ=ZU L1:=⟨_,rfl⟩
   have bt:ZU L1=ZQ:=hN.c;have hnN:n<ZQ:=by rw[hN];exact(j5.1 Fd).1
   obtain⟨g,JO,cum,rfl,-⟩:=JQ.X.2.resolve_left (λh=>by omega);obtain⟨gp,ZP,cup,rfl,Ly⟩:=JQ.rst.2.resolve_left (λh=>by rw[cM,AI] at h;omega);have hcp:j+1<=ZP:=by have:=Ly.2.2.1;rw[cM,AI,<-fd.i] at this;exact this
   rw[bt,cM,AI,<-fd.i] at JQ;have KW:=ae (K7.to n8);have D:Hid (w8.heap[z (A w)]?=Q (N #[J I 0,U ⟨#[]⟩,Y Z 0 0] 88 (0,0))):=(n8.ad _ _ _ _ O (by decide) (by decide) (by decide) λh=>h).k O;have Ks:z (A w)<=z (A W7):=K7.aa.size;have X8:=ae (((LExt.add (z (A w)) L (m:=gG nm) rfl).k Lp Ks));have MW:Hid (z (A w)<=gx):=nX Ks (af Ki gx rfl).1;have MP:=ae (aE Ki (nX Z8 Ks));have Mi:=ae ur;have hw8:z (A w)<=z (A w8):=KW.aa.size;have Lf:=ae JQ;have KZ:=ae Fk;have Mc:=ae KO;clear JQ ur Ki Ma Lp n8 Fk Fd KO Ly S7 K7 O hN;have M:=ae ((BS w8).alloc ly (N #[J I f,U Z9,Y Z 0 0] 88));have ZM:Hid ((ZV w8 (N #[J I f,U Z9,Y Z 0 0] 88)).heap[z (A w8)]?=Q (N #[J I f,U Z9,Y Z 0 0] 88 (0,0))):=gM _ _;have Kh:=ae (Lf.aa M ly);have K9:=ae (KS.l (X:=XN) M ly Lf.lt);have Kf:Hid ((ZV w8 (N #[J I f,U Z9,Y Z 0 0] 88)).heap[z (A w)]?=Q (N #[J I 0,U ⟨#[]⟩,Y Z 0 0] 88 (0,0))):=(M.p _ (ah D)).k D;go_upto_region 30 with fail;generalize World.alloc w8 _=W9 at M ZM Kh K9 Kf ⊢;obtain⟨rb,JV⟩:∃rb,rb=z (A w8):=⟨_,rfl⟩
   rw[<-JV] at ZM ⊢;have Mg:z (A w)<=rb:=by omega
   clear JV M Lf D;obtain⟨H,-,-,-,-,b4,-,-,-,b8,bf⟩:=Kh.ab.y;have Kq:=bf 4;clear bf;go_upto_region 32 with fail;have MZ:IntKind.i64.wrap (j:Int)=(j:Int):=Jt (by omega) (by omega);have Mz:(0:Int)<=(j:Int):=by omega
   have MQ:(j:Int)<=(ZP:Int):=by omega
   refine aI (λV=>ZW V (T hb 4 Z)=Q (Y (Q (T gp 0 Z)) (j+1) ZP)) 14 (by kernel_rfl) ?_;have HS:Hid (W9.drew.cell? (T hb 4 Z)=Q (Y (Q (T gp 0 Z)) (j+1) ZP)):=b4;iterate 10
    refine aO 0 (v:=?_) rfl rfl (by kernel_rfl) (λ_ _ _ h=>h) rfl ?_ HS ?_;rotate_left
    ·(intro wz s0;go_simp)
     (try with_reducible rfl)
    (try simp only[p_,z_])
   refine fs (i:=10) (v:=J I (j:Int)) rfl (by kernel_rfl) (by kernel_rfl) (by kernel_rfl) (by kernel_rfl) (λ_ _ _ h=>h) rfl ?_ HS ?_;{intro wz s0;go_simp}
   (try simp only[p_,z_])
   refine fs (i:=11) (v:=Y (Q (T gp 0 Z)) j ZP) rfl (by kernel_rfl) (by kernel_rfl) (by kernel_rfl) (by kernel_rfl) (λ_ _ _ h=>h) rfl ?_ HS ?_;{intro wz s0;go_simp}
   (try simp only[p_,z_])
   iterate 2
    refine bV 12 rfl rfl (by kernel_rfl) λK hK=>?_;go_simp;refine hK _ _ (λ_=>HS) ?_;clear hK K
    (try simp only[p_,z_])
   have PP:Hid (SI w0 hb (Y a0 S.n0 c0) (Y a1 S.n1 c1) (B W9 (T hb 4 Z) (Y (Q (T gp 0 Z)) j ZP)) y_ ZT L1 (Y (Q (T g 0 Z)) ZQ JO) Nc (Y (Q (T gp 0 Z)) j ZP)/\KS (z (A w0)) XN W9 (B W9 (T hb 4 Z) (Y (Q (T gp 0 Z)) j ZP))):=by have h:=Kh.i;rw[fd.i] at h ⊢;exact h.pop
   refine ai (i:=14) rfl (by kernel_rfl) λK hK=>?_;go_simp;refine hK _ _ (λh=>absurd rfl h) ?_;clear hK K HS b4 Kq b8
   (try simp only[p_])
   refine ba (by kernel_rfl) ?_ _;have D6:Hid (Below (z (A (B W9 (T hb 4 Z) (Y (Q (T gp 0 Z)) j ZP)))) (B W9 (T hb 4 Z) (Y (Q (T gp 0 Z)) j ZP)) (B W9 (T hb 4 Z) (Y (Q (T gp 0 Z)) j ZP)).drew):=br.drew;have P:=ae (PP.1.aa D6 ly);have K6:=ae ((K9.to PP.2).to (KS.l (X:=XN) D6 ly PP.1.lt));have ph:Hid ((B W9 (T hb 4 Z) (Y (Q (T gp 0 Z)) j ZP)).drew.heap[z (A w)]?=Q (N #[J I 0,U ⟨#[]⟩,Y Z 0 0] 88 (0,0))):=(PP.2.ad _ _ _ _ Kf (by decide) (by decide) (by decide) λh=>h).k Kf;have Kx:Hid ((B W9 (T hb 4 Z) (Y (Q (T gp 0 Z)) j ZP)).drew.heap[rb]?=Q (N #[J I f,U Z9,Y Z 0 0] 88 (0,0))):=(PP.2.ad _ _ _ _ ZM (by decide) (by decide) (by decide) λh=>h).k ZM;clear PP D6 Kh K9 Kf ZM MZ Mz MQ H;generalize World.drew (World.setCell W9 _ _)=s at P K6 ph Kx ⊢;have ZM:=ae Kx.i;clear Kx;go_upto_region 33 with fail;obtain⟨H,-,-,b2,-⟩:=P.ab.y;obtain⟨rl,r0,r1,r2,-⟩:=bR ZM;obtain⟨Mb,Me,Kc,DQ⟩:=af P.X g rfl;have At:=ae DQ;have R6:Hid (ZY s (z (A w0)) 188 6 (Y (Q (T g 0 Z)) ZQ JO) ZQ (L1.flatMap smV)):=by have h:=P.X;rw[bt] at h;exact h
   have q1:ZW s (T g (n*6+1) Z)=Q (J I m1.M):=cJ (by rw[bt];exact R6) ex 1 (by omega) rfl;have q2:ZW s (T g (n*6+1+1) Z)=Q (U m1.H):=cJ (by rw[bt];exact R6) ex 2 (by omega) rfl;have q3:ZW s (T g (n*6+1+2) Z)=Q (Y Z 0 0):=cJ (by rw[bt];exact R6) ex 3 (by omega) rfl;have qf:∀j,ZX s (T g j Z)=ZA:=λj=>by simp[World.frozen?,DQ]
   have Kr:=qf (n*6+1);have KV:=qf (n*6+1+1);have KJ:=qf (n*6+1+2);clear qf DQ;have MN:(n:Int)<(ZQ:Int):=by omega
   have ld:g≠hb:=by intro e;have h:=At.i;rw[e] at h;exact absurd (ar h P.ab) (by decide)
   have r:g≠rb:=by intro e;have h:=At.i;rw[e] at h;exact absurd (ar h ZM) (by decide)
   refine wp_region_held_drew (S:=λV=>ZW V (T hb 2 Z)=Q (Y (Q (T g 0 Z)) ZQ JO)/\ZW V (T rb 0 Z)=Q (J I f)/\ZW V (T rb 1 Z)=Q (U Z9)/\ZW V (T rb 2 Z)=Q (Y Z 0 0)) (by kernel_rfl) ⟨b2,r0,r1,r2⟩ λhS=>?_;have HS:=ae hS;clear hS;iterate 8
    first|refine aN 0 (v:=?_) rfl rfl (by kernel_rfl) (λ_ _ _ h=>h) rfl ?_ HS ?_|refine aN 4 (v:=?_) rfl rfl (by kernel_rfl) (λ_ _ _ h=>h) rfl ?_ HS ?_
    rotate_left
    ·(rintro wz⟨s0,s1,s2,s3⟩;go_simp)
     (try with_reducible rfl)
    (try simp only[p_,z_])
   have TL:=ae (P.told bt ex Mn f Z9);have JN:Hid ((B (B (B s (T g (n*6+1) Z) (J I f)) (T g (n*6+1+1) Z) (U Z9)) (T g (n*6+1+2) Z) (Y Z 0 0)).drew.cell? (T hb 2 Z)=Q (Y (Q (T g 0 Z)) ZQ JO)/\(B (B (B s (T g (n*6+1) Z) (J I f)) (T g (n*6+1+1) Z) (U Z9)) (T g (n*6+1+2) Z) (Y Z 0 0)).drew.cell? (T rb 0 Z)=Q (J I f)/\(B (B (B s (T g (n*6+1) Z) (J I f)) (T g (n*6+1+1) Z) (U Z9)) (T g (n*6+1+2) Z) (Y Z 0 0)).drew.cell? (T rb 1 Z)=Q (U Z9)/\(B (B (B s (T g (n*6+1) Z) (J I f)) (T g (n*6+1+1) Z) (U Z9)) (T g (n*6+1+2) Z) (Y Z 0 0)).drew.cell? (T rb 2 Z)=Q (Y Z 0 0)):=
    ⟨(K_ _ _ _ _ ld).k ((K_ _ _ _ _ ld).k ((K_ _ _ _ _ ld).k b2)),(K_ _ _ _ _ r).k ((K_ _ _ _ _ r).k ((K_ _ _ _ _ r).k r0)),(K_ _ _ _ _ r).k ((K_ _ _ _ _ r).k ((K_ _ _ _ _ r).k r1)),(K_ _ _ _ _ r).k ((K_ _ _ _ _ r).k ((K_ _ _ _ _ r).k r2))⟩
   refine aL (i:=8) rfl (by kernel_rfl) λK hK=>?_;go_simp;refine hK _ _ JN ?_;clear hK K HS q1 q2 q3 Kr KV KJ b2 r0 r1 r2 rl
   (try simp only[p_])
   refine wpAnyH_done (by kernel_rfl) ?_ _;have D7:Hid (Below (z (A (B (B (B s (T g (n*6+1) Z) (J I f)) (T g (n*6+1+1) Z) (U Z9)) (T g (n*6+1+2) Z) (Y Z 0 0)))) (B (B (B s (T g (n*6+1) Z) (J I f)) (T g (n*6+1+1) Z) (U Z9)) (T g (n*6+1+2) Z) (Y Z 0 0)) (B (B (B s (T g (n*6+1) Z) (J I f)) (T g (n*6+1+1) Z) (U Z9)) (T g (n*6+1+2) Z) (Y Z 0 0)).drew):=br.drew;have S7:=ae (TL.1.aa D7 ly);have K7:=ae (K6.to (TL.2.1.to (KS.l (X:=XN) D7 ly TL.1.lt)));have JL:=TL.2.2.1;have JP:=TL.2.2.2;have O:Hid ((B (B (B s (T g (n*6+1) Z) (J I f)) (T g (n*6+1+1) Z) (U Z9)) (T g (n*6+1+2) Z) (Y Z 0 0)).drew.heap[z (A w)]?=Q (N #[J I 0,U ⟨#[]⟩,Y Z 0 0] 88 (0,0))):=by have ZN:=(TL.2.1.ad _ _ _ _ ph (by decide) (by decide) (by decide) λh=>h).k ph;exact ZN
   have mv:Hid ((B (B (B s (T g (n*6+1) Z) (J I f)) (T g (n*6+1+1) Z) (U Z9)) (T g (n*6+1+2) Z) (Y Z 0 0)).drew.heap[rb]?=Q (N #[J I f,U Z9,Y Z 0 0] 88 (0,0))):=by have ZN:=(TL.2.1.ad _ _ _ _ ZM (by decide) (by decide) (by decide) λh=>h).k ZM;exact ZN
   have Hx:=ae JL;have GS:=ae JP;clear TL JN JL JP ph ZM K6 P R6 At D7;generalize World.drew (World.setCell (World.setCell (World.setCell s _ _) _ _) _ _)=W7 at S7 K7 O mv ⊢;have OS:=ae MP.i;obtain⟨H,-,-,b2,-⟩:=S7.ab.y;obtain⟨J8,Kd,LG,sm⟩:=af S7.X g rfl;have q4:ZW W7 (T g (n*6+4) Z)=Q m1.sv:=cJ (by have h:=S7.X;rw[GS.i] at h ⊢;exact h) Hx 4 (by omega) rfl;have MX:ZX W7 (T g (n*6+4) Z)=ZA:=by simp[World.frozen?,sm]
   have TD:=ae (S7.upd' GS Hx (j:=4) (by omega) (u:=Y (Q (T gx 0 Z)) ln cx) (m':=⟨m1.e,f,Z9,ls,Y (Q (T gx 0 Z)) ln cx,ZA⟩) rfl (λh=>by cases h));have JK:Hid ((B W7 (T g (n*6+4) Z) (Y (Q (T gx 0 Z)) ln cx)).heap[z (A w)]?=Q (N #[J I 0,U ⟨#[]⟩,Y Z 0 0] 88 (0,0))):=(TD.2.1.ad _ _ _ _ O (by decide) (by decide) (by decide) λh=>h).k O;have JI:Hid ((B W7 (T g (n*6+4) Z) (Y (Q (T gx 0 Z)) ln cx)).heap[rb]?=Q (N #[J I f,U Z9,Y Z 0 0] 88 (0,0))):=(TD.2.1.ad _ _ _ _ mv (by decide) (by decide) (by decide) λh=>h).k mv;have Id:=ae TD.1;have Ke:=ae (K7.to TD.2.1);have Lq:=ae TD.2.2.1;have KQ:=ae TD.2.2.2;clear sm;go_upto_region 35 with fail;clear b2 q4 MX TD S7 K7 O mv Hx GS;generalize World.setCell W7 _ _=JR at Id Ke JK JI ⊢;have MB:=ae (Jc OS Ke);obtain⟨H,-,-,b2,-⟩:=Id.ab.y;obtain⟨J8,Kd,LG,sm⟩:=af Id.X g rfl;have q5:ZW JR (T g (n*6+5) Z)=Q (ZF ZA):=cJ (by have h:=Id.X;rw[KQ.i] at h ⊢;exact h) Lq 5 (by omega) rfl;have Kz:ZX JR (T g (n*6+5) Z)=ZA:=by simp[World.frozen?,sm]
   have TD:=ae (Id.upd' KQ Lq (j:=5) (by omega) (u:=ZF ZH) (m':=⟨m1.e,f,Z9,ls,Y (Q (T gx 0 Z)) ln cx,ZH⟩) rfl (λ_=>(by rw[<-Mj.i];exact MB)));have D:Hid ((B JR (T g (n*6+5) Z) (ZF ZH)).heap[z (A w)]?=Q (N #[J I 0,U ⟨#[]⟩,Y Z 0 0] 88 (0,0))):=(TD.2.1.ad _ _ _ _ JK (by decide) (by decide) (by decide) λh=>h).k JK;have ZL:Hid ((B JR (T g (n*6+5) Z) (ZF ZH)).heap[rb]?=Q (N #[J I f,U Z9,Y Z 0 0] 88 (0,0))):=(TD.2.1.ad _ _ _ _ JI (by decide) (by decide) (by decide) λh=>h).k JI;have S8:=ae TD.1;have K8:=ae (Ke.to TD.2.1);clear sm;go_upto_region 36 with fail;clear b2 q5 Kz TD Id Ke JK JI;generalize World.setCell JR _ _=ZS at S8 K8 D ZL ⊢;obtain⟨ao,co,rfl⟩:=jZ S8.ror;obtain⟨q,hq⟩:∃q,q=ZU ZT:=⟨_,rfl⟩
   have HQ:=ae hq;rw[<-hq] at Md;clear hq;obtain⟨H,-,-,-,b3,-⟩:=S8.ab.y;rw[<-HQ.i] at b3;have M:=ae ((BS ZS).alloc ly (N #[U nm] 9));have S9:=ae (S8.aa M ly);have RO:Hid ((ZV ZS (N #[U nm] 9)).ownsRow (z (A w0)) 9 1 (Y ao q co) q (bO (ZT.map (·.e)))):=by have h:=S9.ror;rw[<-HQ.i] at h;exact h
   have J6:z (A w0)<=z (A (ZV ZS (N #[U nm] 9))):=S9.lt;have HG:Hid (∀ZR:E,(ZV ZS (N #[U nm] 9)).grownBy ZR (Value.slice ao q co).ownBlock->ZR.heap[hb]?=(ZV ZS (N #[U nm] 9)).heap[hb]?/\ZR.heap[z (A w)]?=(ZV ZS (N #[U nm] 9)).heap[z (A w)]?/\ZR.heap[rb]?=(ZV ZS (N #[U nm] 9)).heap[rb]?):=λZR hg=>by
    have aq:∀(i:Nat) (cs:Array ZB) (t:ZK) (fz:Nat × Nat),(ZV ZS (N #[U nm] 9)).heap[i]?=Q (Obj.cells cs t fz)->t≠9->ZR.heap[i]?=(ZV ZS (N #[U nm] 9)).heap[i]?:=λi cs t fz hi ht=>hg.p i (ah hi) λe=>by obtain⟨_,_,Kc,hc⟩:=af RO i e.c;exact ht (ar hi hc)
    exact⟨aq _ _ _ _ S9.ab (by decide),aq _ _ _ _ ((M.p _ (ah D)).k D) (by decide),aq _ _ _ _ ((M.p _ (ah ZL)).k ZL) (by decide)⟩
   have JW:Hid ((ZV ZS (N #[U nm] 9)).heap[z (A w)]?=Q (N #[J I 0,U ⟨#[]⟩,Y Z 0 0] 88 (0,0))):=(M.p _ (ah D)).k D;have Lr:Hid ((ZV ZS (N #[U nm] 9)).heap[rb]?=Q (N #[J I f,U Z9,Y Z 0 0] 88 (0,0))):=(M.p _ (ah ZL)).k ZL;have hbw:¬ hb=z (A w):=λe=>by have h:=S8.ab;unfold ShBox at h;rw[e] at h;exact absurd (ar h D) (by decide)
   have Bk:¬ (z (A w))=hb:=λe=>hbw e.c;have KT:¬ hb=rb:=λe=>by have h:=S8.ab;unfold ShBox at h;rw[e] at h;exact absurd (ar h ZL) (by decide)
   have Mf:¬ rb=hb:=λe=>KT e.c
   go_wp2_with (first
    |(at_builtin;refine cj _ rfl (.tmp 235) (.tmp 237) 43 rfl (z (A w0)) 9 i1 (U ⟨#[]⟩) 1 16 NG Lo Ld Kp KU rfl (by decide) (Y ao q co) q (bO (ZT.map (·.e))) (by simp[Act.eval]) RO.i (T (z (A ZS)) 0 Z) 1 1 [U nm] (by simp[Act.eval]) rfl (pO ZS _ _) (by simp[Value.oneCell']) (by unfold maxLen;omega) (by omega) J6 ?_;intro v9 w9 G o la;have O9:=ae G;have G9:=ae o;have KN:=ae la;have n9:=ae (HG w9 o);obtain⟨g9,c9,MR,rfl,Le⟩:=G.2.resolve_left (λh=>by omega);clear Le G o la;obtain⟨LX,-,-,-,f3,-,-,-,-,-,ff⟩:=(ShBox.ad S9.ab n9.1).y;have Mx:=ff 3;obtain⟨rl,r0,r1,r2,rf⟩:=bR (n9.2.1.k JW);have KH:=rf 0;have Ko:=rf 1;have KM:=rf 2;obtain⟨pl,p0,p1,p2,pf⟩:=bR (n9.2.2.k Lr);clear ff rf pf)
    |fail)
   have JT:=ae (S9.ord (x:=⟨nm,3,f,Z9,tg,ls⟩) (w':=w9) (v:=Y (Q (T g9 0 Z)) (q+1) c9) (by rw[<-HQ.i];exact G9) (by rw[<-HQ.i];exact O9) (by rw[<-HQ.i];exact KN));refine bp (v:=ZJ #[J I f,U Z9,Y Z 0 0]) (by simp[results,SU,go_sem,r0,r1,r2]) rfl ?_;have JM:=(qh w9 (T hb 3 Z) (Y (Q (T g9 0 Z)) (q+1) c9) (z (A w)) Bk).k (n9.2.1.k JW);rw[L9.i];refine⟨L1.set n ⟨m1.e,f,Z9,ls,Y (Q (T gx 0 Z)) ln cx,ZH⟩,Y (Q (T g 0 Z)) ZQ JO,Y (Q (T g9 0 Z)) (q+1) c9,Y (Q (T gp 0 Z)) j ZP,rfl,?_,yE Mi ex KZ KZ rfl rfl rfl rfl rfl Mc HI,X8.set ex rfl (λk e=>by cases e;exact MW),?_⟩;{have x0:=JT.1;rw[V5,V5] at x0;replace x0:=x0.ag JM ⟨by decide,by decide,by decide,by decide⟩ Z8 0 (J I f);have y0:=aw JM (j:=0) (J I f);have x1:=x0.ag y0 ⟨by decide,by decide,by decide,by decide⟩ Z8 1 (U Z9);exact x1.ag (aw y0 (j:=1) (U Z9)) ⟨by decide,by decide,by decide,by decide⟩ Z8 2 (Y Z 0 0)};{have k0:=((KW.to K8).to (KS.l (X:=XN) M ly S8.lt)).to JT.2;exact((k0.fresh ly Z8 0 _).fresh ly Z8 1 _).fresh ly Z8 2 _}
  focus
   obtain⟨a,k,sv,rfl,⟨s0,s1,MK,MO,MV,JG,JH⟩,n8⟩:=JJ
  rotate_left;focus
   obtain⟨sv,rfl,⟨s0,s1,MK,MO,MV,JG,JH⟩,n8⟩:=JJ
  all_goals
   unfold jl;first|unfold jx|unfold jy
   dsimp only;go_upto_region 30 with fail;generalize hW:World.alloc w8 _=W9;obtain⟨M,-,-⟩:=nb1 hW;have K8:=ae ((K7.to n8).to (KS.l (X:=XN) M ly (nX Z8 (K7.to n8).aa.size)));have Kw:=ae (ShBox.ad JG (M.p _ (ah JG)));have Lu:=ae (J_ JH M ly);have D:Hid (W9.heap[z (A w)]?=Q (N #[J I 0,U ⟨#[]⟩,Y Z 0 0] 88 (0,0))):=by have ZN:=(n8.ad _ _ _ _ O (by decide) (by decide) (by decide) λh=>h).k O;exact(M.p _ (ah ZN)).k ZN
   clear n8 JG JH M hW;obtain⟨H,-,-,-,-,-,b5,b6,b7,b8,-⟩:=Kw.y;have hbw:¬ hb=z (A w):=λe=>by have h:=Kw.i;unfold ShBox at h;rw[e] at h;exact absurd (ar h D) (by decide)
   have Bk:¬ (z (A w))=hb:=λe=>hbw e.c;obtain⟨rl,r0,r1,r2,rf⟩:=bR D;have KH:=rf 0;have Ko:=rf 1;have KM:=rf 2;clear rf;first|simp only[jx] at b5 b6 b7|simp only[jy] at b5 b6 b7
   go_wp2_with fail;have Kv:=Jb Lu.i D.i (by decide);first|refine bp (v:=ZJ #[J I 6,U ⟨#[]⟩,Y a (ZU c) k]) (by simp[results,SU,go_sem,r0,r1,r2]) rfl ⟨a,k,rfl,?_⟩|refine bp (v:=ZJ #[J I 7,U d,Y Z 0 0]) (by simp[results,SU,go_sem,r0,r1,r2]) rfl ⟨rfl,?_⟩
   refine⟨⟨_,_,_,_,_,(qh _ _ _ _ hbw).k ((qh _ _ _ _ hbw).k ((qh _ _ _ _ hbw).k Kw)),?_⟩,?_⟩
   ·exact aB (aB (aB Lu Kv _ _) Kv _ _) Kv _ _
   ·exact((K8.fresh ly Z8 0 _).fresh ly Z8 1 _).fresh ly Z8 2 _
 ·have Ls:j=60:=JZ;subst Ls;have hbw:¬ hb=z (A w):=λe=>by have h:=S5.ab;unfold ShBox at h;rw[e] at h;exact absurd (ar h qr) (by decide)
  have Bk:¬ (z (A w))=hb:=λe=>hbw e.c;obtain⟨rl,r0,r1,r2,rf⟩:=bR qr;have KH:=rf 0;have Ko:=rf 1;have KM:=rf 2;clear rf;go_wp2_with fail;refine bp (v:=ZJ #[J I 7,U nm,Y Z 0 0]) (by simp[results,SU,go_sem,r0,r1,r2]) rfl ?_;have LU:=aw S5.ab (j:=8) (ZF ZH);have Lz:=aw LU (j:=5) (J I 7);have Lx:=aw Lz (j:=6) (U nm);have Mo:=aw Lx (j:=7) (Y Z 0 0);have Ka:z (A w0)<=hb:=S5.hbB;have k8:=(((K5.to (KS.setCell (X:=XN) _ Ka (.inr λcs t fz hc=>.inr (.inr (ar hc S5.ab))) (ZF ZH) (j:=8))).to (KS.setCell (X:=XN) _ Ka (.inr λcs t fz hc=>.inr (.inr (ar hc LU))) (J I 7) (j:=5))).to (KS.setCell (X:=XN) _ Ka (.inr λcs t fz hc=>.inr (.inr (ar hc Lz))) (U nm) (j:=6))).to (KS.setCell (X:=XN) _ Ka (.inr λcs t fz hc=>.inr (.inr (ar hc Lx))) (Y Z 0 0) (j:=7));refine⟨rfl,⟨_,_,_,_,_,(qh _ _ _ _ hbw).k ((qh _ _ _ _ hbw).k ((qh _ _ _ _ hbw).k Mo)),⟨rfl,.inl ⟨rfl,rfl⟩⟩⟩,?_⟩;exact((k8.fresh ly Z8 0 _).fresh ly Z8 1 _).fresh ly Z8 2 _
end
section
variable {w0:E}{S:xl}{a0 a1:O_}{c0 c1 hb:Nat}
def ws{y_:List F_}{q_:List k_}(h:fM L y_ q_)(b:∀m∈L,m.e≠nm)(s:aS q_ nm=Z)(h1:atL y_ nm=Z)(f:m'.e=nm)(i:m'.done=ZH)(p:x.e=nm)(q:m'.M=(dt x).M)(o:m'.H=(dt x).H)(r:m'.V=x.D)(l:m'.sv=Y Z 0 0)(n:Nat):fM ((L++[gG nm]).set (ZU L) m') y_ (q_++[x])/\LExt n L ((L++[gG nm]).set (ZU L) m'):=by
 have g:(L++[gG nm])[ZU L]?=Q (gG nm):=by rw[KK ly,UV];rfl
 refine⟨yE (tj h b (m:=gG nm) rfl rfl) g rfl f p i q o r (dI s) h1,(LExt.add n L (m:=gG nm) rfl).set g f λj e=>?_⟩;rw[l] at e;cases e
def Gf (C:pJ w0 S a0 a1):∀n,oe w0 S hb (Y a0 S.n0 c0) (Y a1 S.n1 c1) n:=by
 have s:∀n,(∀m,n=m+1->oe w0 S hb (Y a0 S.n0 c0) (Y a1 S.n1 c1) m)->oe w0 S hb (Y a0 S.n0 c0) (Y a1 S.n1 c1) n:=by
  intro n ZT y_ q_ L md or st w nm Z9 h hrel ZR f y hn;have hmade:ZU q_<=50000:=by unfold fm at f;omega
  have b:ZU L<=100000:=by have:=hrel.len;omega
  rw[jT];unfold dB;cases h0:aS q_ nm with
  |some e =>obtain⟨k,m,f1,Z8,D,ZZ,H⟩:=Ij hrel h0;refine(Gc w nm h b k m f1 Z8 D).P ?_;rintro r w'⟨rfl,p,l⟩;exact⟨L,md,or,st,by rw[ZZ,H],p,hrel,LExt.refl _ _,l⟩
  |none =>
   cases h1:atL y_ nm with
   |some i =>
    obtain⟨k,m,f1,Z8,D,ZZ⟩:=Ik hrel h1;have G:=y nm ZZ;cases h2:atI (nm1 S.f1) S.n1 nm with
    |none=>rw[h2] at G;cases G
    |some tg=>exact xG C w nm h b (by omega) k m f1 Z8 D tg i h2 h1
   |none =>
    obtain⟨q,u⟩:=Dk hrel h0 h1;dsimp only;unfold eW;cases h2:atI (nm0 S.f0) S.n0 nm with
    |some i =>refine(mI.1 C w nm h b (by omega) q (oZ C.ok h2) 0 (S.f0 i).H (.inr ⟨i,h2,rfl,rfl⟩) 1 (S.f0 i).H).P ?_;rintro r w'⟨j,g,rfl,p,l⟩;have o:=ws hrel u h0 h1 (m':=⟨nm,0,(S.f0 i).H,[],Y Z 0 0,ZH⟩) (x:=⟨nm,1,0,(S.f0 i).H,0,[]⟩) rfl rfl rfl rfl rfl rfl rfl (z (A w));exact⟨_,j,g,st,rfl,p,o.1,o.2,l⟩
    |none =>
     cases h3:atI (nm1 S.f1) S.n1 nm with
     |some t =>
      cases n with
      |zero=>exact mI.2 C w nm h b q h1 t h3 _ (.inl ⟨by omega,rfl⟩)
      |succ m=>exact mI.2 C w nm h b q h1 t h3 _ (.inr ⟨m,Z9,ZT m rfl,hrel,ZR,f,y,h0,rfl⟩)
     |none =>refine(mI.1 C w nm h b (by omega) q h3 4 nm (.inl ⟨h2,rfl,rfl⟩) 2 ⟨#[]⟩).P ?_;rintro r w'⟨j,g,rfl,p,l⟩;have o:=ws hrel u h0 h1 (m':=⟨nm,4,nm,[],Y Z 0 0,ZH⟩) (x:=⟨nm,2,0,⟨#[]⟩,0,[]⟩) rfl rfl rfl rfl rfl rfl rfl (z (A w));exact⟨_,j,g,st,rfl,p,o.1,o.2,l⟩
 intro n;induction n with
 |zero=>exact s 0 λm e=>by omega
 |succ n ZS=>exact s (n+1) λm e=>by cases e;exact ZS
end
