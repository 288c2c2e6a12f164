import Derived.Test.YthkgkfehliinfaaGreatDoorEM
import Derived.WalkSmall
set_option linter.all false
set_option maxRecDepth 1000000
set_option maxHeartbeats 16000000
open Go renaming Addr.mk->Q,Value.slice->Y,Value.string->U,Value.int->J,Value.bool->ZF,Value.agg->ZJ,Obj.cells->N,IntKind.i64->I,World->E,Value->ZB,TypeId->ZK,Ending.returned->ZI,World.heap->A,World.ownsRow->ZY,World.alloc->ZV,World.cell?->ZW,World.frozen?->ZX,World.setCell->B,Proofs.Tryz.prog->Pg
open Option renaming none->Z,some->T
open Bool renaming false->ZA,true->ZH
open Array renaming size->z
open List renaming length->ZU
namespace Go.Proofs.YthkgkfehliinfaaGreatDoor.Vp
open Tryz RowKit
variable {m m':SM}{n g j_ b j i size Z9 ZQ:Nat}{w:E}{nm:F_}{L:List SM}{e:ZK}{u:ZB}{x:zt}{l:List ZB}
def wj:∀(L:List SM) (k j:Nat) (m b:SM) (u:ZB),L[k]?=T m->j<6->smV b=(smV m).set j u->(L.flatMap smV).set (k*6+j) u=(L.set k b).flatMap smV
 |[],k,j,m,b,u,h,_,_=>by simp at h
 |a::L,0,j,m,b,u,h,hj,he=>by simp only[List.getElem?_cons_zero,ND] at h;subst h;simp only[N9,List.set_cons_zero,UR,IT];rw[WW _ _ (by rw[oG];exact hj),he]
 |a::L,k+1,j,m,b,u,h,hj,he=>by simp only[VH] at h;simp only[N9,VA];rw[T9 _ _ (by rw[oG];omega),oG,show(k+1)*6+j - 6=k*6+j by omega,wj L k j m b u h hj he]
def Av{i:List ZB}(h:ZY w b e size (Y (T (Q g 0 Z)) n j_) n i)(u:ZB):(B w (Q g j Z) u).ownsRow b e size (Y (T (Q g 0 Z)) n j_) n (i.set j u):=by
 refine⟨by rw[NJ];exact h.1,?_⟩;rcases h.2 with⟨f,h0⟩|⟨g',cap',l,f,hb,p,h1,h2,m,o⟩
 {simp at f};{simp only[IN,ND,RP] at f;obtain⟨⟨rfl,-⟩,-,rfl⟩:=f;refine .inr ⟨g,j_,l.setIfInBounds j u,rfl,hb,aw p u,h1,h2,by simpa using m,?_⟩;rw[R8,YV,o]}
section
variable {w0 w w':E}{hb:Nat}{s0 s1 md or st:ZB}{q_:List F_}{jh:List zt}{L:List SM}
def SI.upd{k:Nat}{b:SM}(h:SI w0 hb s0 s1 w q_ jh L (Y (T (Q g 0 Z)) (ZU L) j_) or st)(G:L[k]?=T m)(D:j<6)(H:smV b=(smV m).set j u)(ZS:b.done=ZH->w.ownsRow (z (A w0)) 171 3 b.sv (ZU b.V) (eG b.V)):SI w0 hb s0 s1 (B w (Q g (k*6+j) Z) u) q_ jh (L.set k b) (Y (T (Q g 0 Z)) (L.set k b).length j_) or st/\KS (z (A w0)) XN w (B w (Q g (k*6+j) Z) u):=by
 obtain⟨l,hgl,cs,p⟩:=af h.X g rfl
 have f:∀{size n:Nat} {q:ZK} {r:ZB} {C:List ZB},w.ownsRow (z (A w0)) q size r n C->168≠q->(B w (Q g (k*6+j) Z) u).ownsRow (z (A w0)) q size r n C:=λZZ y=>aB ZZ (λe=>by
  obtain⟨_,_,Z9,i⟩:=af ZZ g e
  exact y (ar p i)) _ _
 have s:(L.set k b).length=ZU L:=NJ;refine⟨⟨h.ak.setCell l u,h.hbB,?_,?_,f h.ror (by decide),f h.rst (by decide),h.apart,λx o Z8=>?_⟩,KS.setCell w l (.inr λZ9 t fz i=>.inr (.inl (ar i p))) u⟩
 ·rw[s]
  exact h.ab.ad (qh _ _ _ _ λe=>by
   have ZT:hb=g:=e
   exact absurd (ar h.ab (ZT ▸ p)) (by decide))
 {rw[s,<-wj L k j m b u G D H];exact Av h.X u};{rcases OR o with o|rfl;{exact f (h.V x o Z8) (by decide)};{exact f (ZS Z8) (by decide)}}
def SI.grow{ZO:ZK}{sz m:Nat}{v:ZB}{ZS:List ZB}(h:SI w0 hb s0 s1 w q_ jh L md or st)(K:ZY w (z (A w0)) ZO sz u n ZS)(G:ZO=9\/ZO=168)(C:w.grownBy w' u.ownBlock)(H:ZY w' (z (A w0)) ZO sz v m l):ShBox w' hb s0 s1 md or st 0 ⟨#[]⟩ (Y Z 0 0) ZA/\(∀{size n:Nat} {p:ZK} {s:ZB} {l:List ZB},ZY w (z (A w0)) p size s n l->(p≠ZO\/∀k,s.ownBlock=T k->u.ownBlock≠T k)->112≠p->(B w' (Q hb j Z) v).ownsRow (z (A w0)) p size s n l)/\(B w' (Q hb j Z) v).ownsRow (z (A w0)) ZO sz v m l/\KS (z (A w0)) XN w (B w' (Q hb j Z) v):=by
 have Z9:=af K;have ZZ:112≠ZO:=by rcases G with rfl|rfl<;>decide
 have O:KS (z (A w0)) XN w w':=KS.of_grown C h.lt λj ZQ=>by obtain⟨h1,_,g,h2⟩:=Z9 j ZQ;exact⟨h1,.inr λg t fz o=>by rw[ar o h2];exact G.imp id .inl⟩
 have r:∀(i:Nat) (g:Array ZB) (t:ZK) (fz:Nat × Nat),w.heap[i]?=T (Obj.cells g t fz)->t≠ZO->w'.heap[i]?=w.heap[i]?:=λi g t fz hi ZR=>C.p i (ah hi) λe=>by obtain⟨_,_,y,h2⟩:=Z9 i e.c;exact ZR (ar hi h2)
 have b:ShBox w' hb s0 s1 md or st 0 ⟨#[]⟩ (Y Z 0 0) ZA:=h.ab.ad (r _ _ _ _ h.ab ZZ);refine⟨b,λ{size n p s l} x f ZT=>?_,aB H (λe=>?_) _ _,O.to (KS.setCell w' h.hbB (.inr λg t fz o=>.inr (.inr (ar o b))) v)⟩
 ·have D:=b9 (w':=w') x λk Z8=>by
   obtain⟨_,M,g,o⟩:=af x k Z8;rcases f with f|f;{exact r _ _ _ _ o f};{exact C.p k M λe=>f k Z8 e.c}
  exact aB D (λe=>by
   obtain⟨_,_,y,q⟩:=af D hb e
   exact ZT (ar b q)) _ _
 {obtain⟨_,_,y,q⟩:=af H hb e;exact ZZ (ar b q)}
def SI.addL{v:ZB}(h:SI w0 hb s0 s1 w q_ jh L md or st)(p:w.grownBy w' md.ownBlock)(q:w'.ownsRow (z (A w0)) 168 6 v (ZU L+1) (L.flatMap smV++smV m))(o:m.done=ZA):SI w0 hb s0 s1 (B w' (Q hb 2 Z) v) q_ jh (L++[m]) v or st/\KS (z (A w0)) XN w (B w' (Q hb 2 Z) v):=by
 obtain⟨i,b,l,n⟩:=h.grow (j:=2) h.X (.inr rfl) p q;refine⟨⟨h.ak.k n.aa,h.hbB,aw i v,(by rw[cM,AI,J2,List.flatMap_singleton];exact l),b h.ror (.inl (by decide)) (by decide),b h.rst (.inl (by decide)) (by decide),h.apart,λx f g=>?_⟩,n⟩;rcases p8.1 f with f|f;{exact b (h.V x f g) (.inl (by decide)) (by decide)};{rw[j4.1 f,o] at g;cases g}
def SI.ord{v:ZB}(h:SI w0 hb s0 s1 w q_ jh L md or st)(q:w.grownBy w' or.ownBlock)(r:w'.ownsRow (z (A w0)) 9 1 v (ZU jh+1) (bO (jh.map (·.e))++[U x.e]))(n:v.ownBlock=or.ownBlock\/v.ownBlock=T (z (A w))):SI w0 hb s0 s1 (B w' (Q hb 3 Z) v) q_ (jh++[x]) L md v st/\KS (z (A w0)) XN w (B w' (Q hb 3 Z) v):=by
 obtain⟨i,b,g,l⟩:=h.grow (j:=3) h.ror (.inl rfl) q r;refine⟨⟨h.ak.k l.aa,h.hbB,aw i v,b h.X (.inl (by decide)) (by decide),(by rw[cM,AI];simpa[bO] using g),?_,λk f=>?_,λx p o=>b (h.V x p o) (.inl (by decide)) (by decide)⟩,l⟩;{exact b h.rst (.inr λk m e=>h.apart k e m) (by decide)}
 ·intro e;rcases n with a|a;{exact h.apart k (by rw[<-a];exact f) e}
  ·rw[a] at f;cases f
   have:=(af h.rst _ e).2.1;omega
def SI.push{v:ZB}(h:SI w0 hb s0 s1 w q_ jh L md or st)(q:w.grownBy w' st.ownBlock)(r:w'.ownsRow (z (A w0)) 9 1 v (ZU q_+1) (bO q_++[U nm]))(n:v.ownBlock=st.ownBlock\/v.ownBlock=T (z (A w))):SI w0 hb s0 s1 (B w' (Q hb 4 Z) v) (q_++[nm]) jh L md or v/\KS (z (A w0)) XN w (B w' (Q hb 4 Z) v):=by
 obtain⟨i,b,g,l⟩:=h.grow (j:=4) h.rst (.inl rfl) q r;refine⟨⟨h.ak.k l.aa,h.hbB,aw i v,b h.X (.inl (by decide)) (by decide),?_,(by rw[cM,AI];simpa[bO] using g),λk f=>?_,λx p o=>b (h.V x p o) (.inl (by decide)) (by decide)⟩,l⟩;{exact b h.ror (.inr λk m e=>h.apart k m e) (by decide)}
 ·intro e;rcases n with a|a;{exact h.apart k f (by rw[<-a];exact e)}
  ·rw[a] at e;cases e
   have:=(af h.ror _ f).2.1;omega
def SI.pop (h:SI w0 hb s0 s1 w (q_++[nm]) jh L md or (Y (T (Q g 0 Z)) (ZU q_+1) j_)):SI w0 hb s0 s1 (B w (Q hb 4 Z) (Y (T (Q g 0 Z)) (ZU q_) j_)) q_ jh L md or (Y (T (Q g 0 Z)) (ZU q_) j_)/\KS (z (A w0)) XN w (B w (Q hb 4 Z) (Y (T (Q g 0 Z)) (ZU q_) j_)):=by
 have b:∀{size n:Nat} {i:ZK} {j:ZB} {o:List ZB},w.ownsRow (z (A w0)) i size j n o->112≠i->(B w (Q hb 4 Z) (Y (T (Q g 0 Z)) (ZU q_) j_)).ownsRow (z (A w0)) i size j n o:=λf l=>aB f (λe=>by
  obtain⟨_,_,cs2,m⟩:=af f hb e
  exact l (ar h.ab m)) _ _
 have hst:=h.rst;rw[cM,AI] at hst;refine⟨⟨h.ak.setCell h.hbB _,h.hbB,aw h.ab _,b h.X (by decide),b h.ror (by decide),b (ownsRow_pop (last:=[U nm]) (by simp[bO]) (by simpa[bO] using hst)) (by decide),h.apart,λx q p=>b (h.V x q p) (by decide)⟩,KS.setCell w h.hbB (.inr λcs t fz r=>.inr (.inr (ar r h.ab))) _⟩
end
def yD (h:L.Pairwise λm b=>m.e≠b.e){b:SM}(hi:L[i]?=T m)(r:L[j]?=T b)(e:m.e=b.e):i=j:=by
 rw[D0] at h;obtain⟨g,l⟩:=j5.1 hi;obtain⟨n,f⟩:=j5.1 r;rcases VO i j with p|o|q;{exact absurd (by rw[l,f];exact e) (h i j g n p)};{exact o};{exact absurd (by rw[l,f];exact e.c) (h j i n g q)}
def rW (hn:L.Pairwise λm i=>m.e≠i.e)(g:m∈L)(e:m.e=nm):∃k,fI L nm=T k/\L[k]?=T m:=by
 obtain⟨k,b⟩:=PE g;refine⟨k,vW b (by rw[e];simp) λj l hj f=>?_,b⟩;cases h:(l.e.toList == nm.toList) with
 |false=>rfl
 |true =>have:=yD hn f b (by rw[Qv h,e]);omega
section
variable {L:List SM}{q_:List F_}{jh:List zt}{nm:F_}
def Ij (h:fM L q_ jh){e:zt}(j:aS jh nm=T e):∃k m,fI L nm=T k/\L[k]?=T m/\m.done=ZH/\m.M=(dt e).M/\m.H=(dt e).H:=by obtain⟨h1,h2⟩:=iu j;obtain⟨m,f,g,o,l,b,_⟩:=h.got e h1;obtain⟨k,n,i⟩:=rW h.nod f (g.k h2);exact⟨k,m,n,i,o,l,b⟩
def Ik (h:fM L q_ jh)(hi:atL q_ nm=T i):∃k m,fI L nm=T k/\L[k]?=T m/\m.done=ZA/\nm∈q_:=by
 have f:=hi;unfold atL at f;obtain⟨g,h1,_⟩:=SH.1 f;have b:nm∈q_:=by rw[<-Qv h1];exact gz g
 obtain⟨m,j,l,p⟩:=h.mkg nm b;obtain⟨k,o,n⟩:=rW h.nod j l;exact⟨k,m,o,n,p,b⟩
def Dk (h:fM L q_ jh)(i:aS jh nm=Z)(h1:atL q_ nm=Z):fI L nm=Z/\∀m∈L,m.e≠nm:=by
 have b:∀m∈L,m.e≠nm:=λm f e=>by
  rcases h.all m f with⟨x,g,l⟩|h2;{exact dI i x g (l.k e)};{exact jU h1 _ h2 e}
 refine⟨yB λj m hj f=>?_,b⟩;cases h2:(m.e.toList == nm.toList) with
 |false=>rfl
 |true=>exact absurd (Qv h2) (b m (I5 f))
def tj (h:fM L q_ jh)(j:∀m∈L,m.e≠nm)(i:m.e=nm)(l:m.done=ZA):fM (L++[m]) (q_++[nm]) jh:=by
 refine⟨?_,by simp[h.len];omega,λx n=>?_,λt g=>?_,λy f=>?_⟩;{rw[PD];exact⟨h.nod,VK _ _,λa o b hb=>by rw[j4.1 hb,i];exact j a o⟩};{obtain⟨y,f,r⟩:=h.got x n;exact⟨y,NY _ f,r⟩};{rcases p8.1 g with g|g;{obtain⟨y,f,r⟩:=h.mkg t g;exact⟨y,NY _ f,r⟩};{exact⟨m,PK _ (j4.2 rfl),by rw[i,j4.1 g],l⟩}};{rcases p8.1 f with f|f;{exact(h.all y f).imp id λh=>NY _ h};{rw[j4.1 f,i];exact .inr (PK _ (j4.2 rfl))}}
def yE{g:List zt}{k:Nat}{b:SM}(h:fM L (q_++[nm]) g)(Z9:L[k]?=T m)(G:m.e=nm)(n:b.e=nm)(Z8:x.e=nm)(O:b.done=ZH)(M:b.M=(dt x).M)(ZQ:b.H=(dt x).H)(P:b.V=x.D)(K:∀y∈g,y.e≠nm)(h1:atL q_ nm=Z):fM (L.set k b) q_ (g++[x]):=by
 have H:=(j5.1 Z9).1;have ZR:=(j5.1 Z9).2;have o:∀y∈L,y.e≠nm->y∈L.set k b:=λy f D=>by
  obtain⟨i,hi⟩:=PE f;refine I5 (i:=i) ?_;rw[Q2 λe=>?_];{exact hi}
  ·subst e;rw[Z9] at hi;cases hi
   exact D G
 have u:b∈L.set k b:=I5 (PH H);refine⟨?_,by rw[NJ,h.len];simp;omega,λy f=>?_,λt q=>?_,λy f=>?_⟩;{have p:=h.nod;rw[D0] at p ⊢;have s:∀(i:Nat) (hi:i<(L.set k b).length),(L.set k b)[i].e=(L[i]'(by simpa using hi)).e:=λi hi=>(by rw[List.getElem_set];split;{rename_i e;subst e;rw[ZR,G,n]};{rfl});intro i j hi ZT ZS;rw[s i hi,s j ZT];exact p i j (by simpa using hi) (by simpa using ZT) ZS};{rcases p8.1 f with f|f;{obtain⟨ZZ,hz,l,r⟩:=h.got y f;exact⟨ZZ,o ZZ hz (by rw[l];exact K y f),l,r⟩};{rw[j4.1 f];exact⟨b,u,by rw[n,Z8],O,M,ZQ,P⟩}};{obtain⟨ZZ,hz,l,r⟩:=h.mkg t (NY _ q);exact⟨ZZ,o ZZ hz (by rw[l];exact jU h1 t q),l,r⟩};{rcases OR f with C|rfl;{rcases h.all y C with⟨ZZ,hz,e⟩|h2;{exact .inl ⟨ZZ,NY _ hz,e⟩};{rcases p8.1 h2 with h2|h2;{exact .inr h2};{exact .inl ⟨x,PK _ (j4.2 rfl),by rw[Z8,j4.1 h2]⟩}}};{exact .inl ⟨x,PK _ (j4.2 rfl),by rw[Z8,n]⟩}}
end
def oZ{S:x_}(h:SpcOk S)(hi:atI (nm0 S.f0) S.n0 nm=T i):atI (nm1 S.f1) S.n1 nm=Z:=by
 have b:=h.chk;unfold aR at b;split at b;· omega
 split at b;· omega
 split at b;· omega
 split at b;· omega
 split at b;· omega
 split at b;· omega
 rename_i f;obtain⟨h1,h2⟩:=bu hi;have:=iG (Bool.eq_false_iff.2 f) h1;rw[h2] at this;exact vV this
open Ca
section
variable {w0:E}{S:x_}{a0 a1:O_}{c0 c1 hb:Nat}{md or st:ZB}{q_:List F_}{jh:List zt}{L:List SM}
def Gc (w:E)(nm:F_)(h:SI w0 hb (Y a0 S.n0 c0) (Y a1 S.n1 c1) w q_ jh L md or st)(t:ZU L<=100000)(k:Nat)(m:SM)(h1:fI L nm=T k)(h2:L[k]?=T m)(D:m.done=ZH):Calls Pg 98 #[.pointer (T (Q hb 0 Z)),U nm] w λe w'=>e=ZI (ZJ #[J I m.M,U m.H,Y Z 0 0])/\SI w0 hb (Y a0 S.n0 c0) (Y a1 S.n1 c1) w' q_ jh L md or st/\KS (z (A w0)) XN w w':=by
 obtain⟨o,f⟩:∃W:E,ZV w (N #[J I 0,U ⟨#[]⟩,Y Z 0 0] 60)=W:=⟨_,rfl⟩
 obtain⟨y,kr,-⟩:=nb1 f;have p:=ae f;clear f;have l:=ae (h.aa y ly);have b:z (A w0)<=z (A w):=h.lt;have hkl:=(j5.1 h2).1;obtain⟨g,j_,cur,rfl,-⟩:=h.X.2.resolve_left (λh=>by omega);have Z8:eh (fI L nm)=(k:Int):=by rw[h1];rfl
 have r:=ae h2;obtain⟨n,hn⟩:∃n,n=ZU L:=⟨_,rfl⟩
 have C:=ae hn;have hkn:k<n:=by omega
 clear h h1 h2 hn;go_enter func98,ntmps98;go_wp2_with fail;rw[p.i];clear p;refine(pI o nm l t).P ?_;rintro e w1⟨rfl,s⟩;rw[s];clear s;rw[Z8];obtain⟨hbl,-,-,ZZ,-⟩:=l.ab.K;have d1:ZW o (Q g (k*6+1) Z)=T (J I m.M):=cJ l.X r 1 (by omega) rfl;have d2:ZW o (Q g (k*6+2) Z)=T (U m.H):=cJ l.X r 2 (by omega) rfl;have d3:ZW o (Q g (k*6+3) Z)=T (Y Z 0 0):=cJ l.X r 3 (by omega) rfl;have d5:ZW o (Q g (k*6+5) Z)=T (ZF ZH):=by have:=cJ l.X r.i 5 (by omega) (u:=ZF m.done) rfl;rw[D] at this;exact this
 rw[<-C.i] at ZZ;obtain⟨rl,r0,r1,G,q⟩:=bR kr;have rf0:=q 0;have rf1:=q 1;have rf2:=q 2;have hI0:(0:Int)<=(k:Int):=by omega
 have hI1:(k:Int)<(n:Int):=by omega
 clear q;go_wp2_with fail;refine bp (v:=ZJ #[J I m.M,U m.H,Y Z 0 0]) (by simp[results,TM,go_sem,r0,r1,G]) rfl ⟨rfl,?_,?_⟩;{have ZT:=l.ag kr.i ⟨by decide,by decide,by decide,by decide⟩ b 0 (J I m.M);have x:=aw kr.i (j:=0) (J I m.M);have Z9:=ZT.ag x ⟨by decide,by decide,by decide,by decide⟩ b 1 (U m.H);exact Z9.ag (aw x (j:=1) (U m.H)) ⟨by decide,by decide,by decide,by decide⟩ b 2 (Y Z 0 0)}
 ·refine((((KS.q (X:=XN) y ly b).k (KS.setCell (X:=λi=>i=z (A w)) _ b (Or.inl rfl) _) ?_).k (KS.setCell (X:=λi=>i=z (A w)) _ b (Or.inl rfl) _) ?_).k (KS.setCell (X:=λi=>i=z (A w)) _ b (Or.inl rfl) _) ?_);all_goals
   intro i hi h;have e2:i=z (A w):=h;omega
def wk{M:List F_}(h:ZY w b 9 1 (Y (T (Q g 0 Z)) n j_) n (bO M)){t:F_}(f:M[i]?=T t):ZW w (Q g i Z)=T (U t):=by have h1:=h.cells (g:=g) rfl i (U t) (by rw[bO,L8,f];rfl);rw[addr_add,IT] at h1;exact h1
def xG (C:pJ w0 S a0 a1)(w:E)(nm:F_)(h:SI w0 hb (Y a0 S.n0 c0) (Y a1 S.n1 c1) w q_ jh L md or st)(JR:ZU L<=100000)(Fm:ZU q_<=60)(k:Nat)(m:SM)(h1:fI L nm=T k)(h2:L[k]?=T m)(hd:m.done=ZA)(tg Z8:Nat)(ht:atI (nm1 S.f1) S.n1 nm=T tg)(hi:atL q_ nm=T Z8):Calls Pg 98 #[.pointer (T (Q hb 0 Z)),U nm] w λe w'=>mF w0 hb (Y a0 S.n0 c0) (Y a1 S.n1 c1) q_ L w e w' (.inr (.inl (q_.drop Z8))):=by
 obtain⟨i1,JZ,JV,JL,JI⟩:=lE pK;obtain⟨W0,K⟩:∃W:E,ZV w (N #[J I 0,U ⟨#[]⟩,Y Z 0 0] 60)=W:=⟨_,rfl⟩
 obtain⟨A0,kr,-⟩:=nb1 K;have bt:=ae K;clear K;have S0:=ae (h.aa A0 ly);have o:z (A w0)<=z (A w):=h.lt;have hkl:=(j5.1 h2).1;obtain⟨g,j_,cur,rfl,-⟩:=h.X.2.resolve_left (λh=>by omega);have e1:eh (fI L nm)=(k:Int):=by rw[h1];rfl
 have ZQ:eh (atI (nm1 S.f1) S.n1 nm)=(tg:Int):=by rw[ht];rfl
 have JH:Z8<ZU q_/\(∃x,q_[Z8]?=T x/\(x.toList == nm.toList)=ZH)/\∀(j:Nat) (y:F_),j<Z8->q_[j]?=T y->(y.toList == nm.toList)=ZA:=by unfold atL at hi;obtain⟨q1,q2,q3⟩:=SH.1 hi;refine⟨q1,⟨_,gq q1,q2⟩,λj y hj hy=>?_⟩;have:=q3 j hj;rw[TI] at this;rw[(j5.1 hy).2] at this;exact this
 obtain⟨Hx,⟨xi,th,mv⟩,la⟩:=JH;obtain⟨ZN,l,cus,rfl,DE⟩:=h.rst.2.resolve_left (λh=>by omega);have JQ:ZU q_<=l:=DE.2.2.1;have H2:=ae h2;have JS:=ae th;have J5:=ae la;have JU:=ae mv;obtain⟨n,hn⟩:∃n,n=ZU L:=⟨_,rfl⟩
 have HN:=ae hn;have hkn:k<n:=by omega
 obtain⟨f,ld⟩:∃f,f=ZU q_:=⟨_,rfl⟩
 have ZT:=ae ld;have CC:=ae C;have hsm:=C.ok.bb;rw[<-ld] at Hx Fm JQ;clear h h1 h2 hn C ht hi DE ld th mv la;go_enter func98,ntmps98;go_wp2_with fail;rw[bt.i];clear bt;refine(pI W0 nm S0 JR).P ?_;rintro e w1⟨rfl,sm⟩;rw[sm];clear sm;rw[e1];obtain⟨R,b0,b1,b2,-⟩:=S0.ab.K;have d5:ZW W0 (Q g (k*6+5) Z)=T (ZF ZA):=by have:=cJ S0.X H2.i 5 (by omega) (u:=ZF m.done) rfl;rw[hd] at this;exact this
 rw[<-HN.i] at b2;have hI0:(0:Int)<=(k:Int):=by omega
 have hI1:(k:Int)<(n:Int):=by omega
 go_wp2_with fail;refine(iP a0 S.n0 c0 a1 S.n1 c1 S.f0 nm W0 (by omega) (CC.src.aa S0.ak ly)).P ?_;rintro e w1⟨rfl,Z9⟩;have S1:=ae (S0.aa Z9 ly);have qr:Hid (w1.heap[z (A w)]?=_):=(Z9.p _ (ah kr)).k kr;have K1:=ae (A0.k (Z9.P A0.size));clear Z9 b0 b1 b2 R d5;obtain⟨R,b0,b1,-⟩:=S1.ab.K;go_wp2_with fail;refine(iQ a0 S.n0 c0 a1 S.n1 c1 S.f1 nm w1 (by omega) (CC.w.aa S1.ak ly)).P ?_;rintro e ZP⟨he,Z9⟩;rw[ZQ] at he;subst he;have s:=ae (S1.aa Z9 ly);have ro:Hid (ZP.heap[z (A w)]?=_):=(Z9.p _ (ah qr)).k qr;have K2:=ae (K1.k (Z9.P K1.size));clear Z9 b0 b1 R;obtain⟨R,-,-,-,-,b4,b5,b6,b7,b8,bf⟩:=s.ab.K;have JY:=bf 5;have J4:=bf 6;have JK:=bf 7;have JT:=bf 8;rw[<-ZT.i] at b4;clear bf;have hT0:(0:Int)<=(tg:Int):=by omega
 go_wp2_with fail;go_loop [9] (λi=>∃j:Nat,j<=Z8/\i=J I j) (λi=>Z8 - (intOf i).toNat);case atStart=>exact⟨0,by omega,rfl⟩
 case round =>
  obtain⟨j,hj,rfl⟩:=hrel;obtain⟨y,hy⟩:∃y,q_[j]?=T y:=⟨_,gq (by have:=ZT.i;omega)⟩
  have dj:ZW ZP (Q ZN j Z)=T (U y):=wk s.rst hy;have hjm:(j:Int)<(f:Int):=by omega
  have HY:=ae hy;clear hy;by_cases JJ:j<Z8;{have JM:=J5.i j y JJ HY.i;have HNE:=ae JM;go_wp2;exact⟨⟨j+1,by omega,by go_num⟩,by simp[intOf];omega⟩}
  ·obtain rfl:j=Z8:=by omega
   have hye:(y.toList == nm.toList)=ZH:=by
    have:=HY.i;rw[JS.i] at this;cases this
    exact JU
   go_upto_region 22 with fail;clear dj b4 b5 b6 b7 b8 JY J4 JK JT;have At:=ae (aw s.ab (j:=8) (ZF ZH))
   have R3:Hid ((B ZP (Q hb 8 Z) (ZF ZH)).ownsRow (z (A w0)) 9 1 (Y (T (Q ZN 0 Z)) (ZU q_) l) (ZU q_) (bO q_)):=aB s.rst (λe=>by
    obtain⟨_,_,ph,D⟩:=af s.rst hb e
    exact absurd (ar s.ab D) (by decide)) _ _
   have hbw:hb≠z (A w):=λe=>absurd (ar s.ab (e ▸ ro.i)) (by decide);have ZO:Hid ((B ZP (Q hb 8 Z) (ZF ZH)).heap[z (A w)]?=_):=(qh _ _ _ _ (Ne.symm hbw)).k ro;have V:Hid (KS (z (A w0)) XN w (B ZP (Q hb 8 Z) (ZF ZH))):=(KS.q (X:=XN) K2 ly o).to (KS.setCell ZP s.hbB (.inr λl t fz ZR=>.inr (.inr (ar ZR s.ab))) _);have ex:z (A w0)<=hb:=s.hbB;generalize World.setCell ZP _ _=b at At R3 ZO V ⊢;have H:Hid (ShBox b hb (Y a0 S.n0 c0) (Y a1 S.n1 c1) (Y (T (Q g 0 Z)) (ZU L) j_) or (Y (T (Q ZN 0 Z)) (ZU q_) l) 0 ⟨#[]⟩ (Y Z 0 0) ZH):=At.i;obtain⟨JG,-,-,-,-,b4,-⟩:=H.K;rw[<-ZT.i] at b4;have LO:=ae (oH b 9 1);have A4:=ae ((BS b).alloc ly (N #[] 9));have J0:Hid (∀q u,(bO (q_.drop j))[q]?=T u->(ZV b (N #[] 9)).cell? (((Q ZN j Z):Addr).add q)=T u):=λq u hq=>by have h1:=(J_ R3 A4 ly).cells (g:=ZN) rfl (j+q) u (by rw[<-hq,bO,bO,L8,L8,YK]);rw[addr_add,IT] at h1;rw[addr_add];exact h1
   have hjc:¬ l=j:=by omega
   have hI2:(0:Int)<=(j:Int):=by omega
   have hI3:(j:Int)<=(f:Int):=by omega
   have hI4:(f:Int)<=(l:Int):=by omega
   have ur:(bO (q_.drop j)).length=(f - j)*1:=by rw[bO,PJ,NO,<-ZT.i,Nat.mul_one]
   have JN:=ae ur;have aq:∀u∈bO (q_.drop j),u.oneCell'=ZH:=λu hu=>by rw[bO,NN] at hu;obtain⟨t,_,rfl⟩:=hu;rfl
   have Id:=ae aq;clear ur aq;have HG:Hid (∀r:E,(ZV b (N #[] 9)).grownBy r (T (z (A b)))->r.heap[hb]?=b.heap[hb]?/\r.heap[z (A w)]?=b.heap[z (A w)]?):=λr hg=>by
    have hz:z (A (ZV b (N #[] 9)))=z (A b)+1:=by simp
    have JX:=ah ZO.i;exact⟨(hg.p hb (by omega) (λe=>by have ZQ:hb=z (A b):=IH e;omega)).k (A4.p hb JG),(hg.p (z (A w)) (by omega) (λe=>by have ZQ:z (A w)=z (A b):=IH e;omega)).k (A4.p _ JX)⟩
   have ZM:z (A b)<=z (A (ZV b (N #[] 9))):=by simp
   have GS:(0+(f - j))*16<=140737488355328:=by omega
   have Fk:0+(f - j)<=maxLen:=by unfold maxLen;omega
   have Fd:0+(f - j)≠0:=by omega
   go_wp2_with (first
    |(at_builtin;refine cj _ rfl (.tmp 129) (.tmp 135) 43 rfl (z (A b)) 9 i1 (U ⟨#[]⟩) 1 16 NH JZ JV JL JI rfl (by decide) (Y (T (Q (z (A b)) 0 Z)) 0 0) 0 [] (by simp[Act.eval]) LO.i (Q ZN j Z) (f - j) (l - j) (bO (q_.drop j)) (by simp[Act.eval]) JN.i J0.i Id.i Fk GS ZM ?_;intro v4 r G p JW;have O4:=ae G;have DQ:=ae (HG r p).1;have Bk:=ae (HG r p).2;have G4:=ae p;obtain⟨O,c4,cu4,rfl,JO⟩:=G.2.resolve_left (λh=>Fd h.2);clear JO G p JW;obtain⟨hbl4,-,-,-,-,-,f5,f6,f7,-,ff⟩:=(ShBox.ad H DQ).K;have ff5:=ff 5;have ff6:=ff 6;have ff7:=ff 7;obtain⟨rl,r0,r1,r2,rf⟩:=bR (Bk.k ZO);have rf0:=rf 0;have rf1:=rf 1;have rf2:=rf 2;have hbw2:¬ (z (A w))=hb:=(λe=>hbw e.c);have P:¬ hb=z (A w):=hbw;clear ff rf)
    |fail)
   refine bp (v:=ZJ #[J I 6,U ⟨#[]⟩,Y (T (Q O 0 Z)) (f - j) c4]) (by simp[results,TM,go_sem,r0,r1,r2]) rfl ?_;have ZL:(q_.drop j).length=f - j:=by rw[NO,<-ZT.i]
   have fd:=DQ.k H.i;have n9:=aw fd (j:=5) (J I 6);have n8:=aw n9 (j:=6) (U ⟨#[]⟩);have JP:=aw n8 (j:=7) (Y (T (Q O 0 Z)) (f - j) c4);have M:(Value.slice (T (Q O 0 Z)) (f - j) c4).ownBlock≠T hb:=λe=>by obtain⟨_,_,ph,D⟩:=af O4 hb (by simpa[Value.ownBlock] using e);exact absurd (ar fd D) (by decide)
   have ZS:(Value.slice (T (Q O 0 Z)) (f - j) c4).ownBlock≠T (z (A w)):=λe=>by obtain⟨_,_,ph,D⟩:=af O4 (z (A w)) (by simpa[Value.ownBlock] using e);exact absurd (ar (Bk.k ZO) D) (by decide)
   have o4:ZY r (z (A w0)) 9 1 (Y (T (Q O 0 Z)) (f - j) c4) (f - j) (bO (q_.drop j)):=by have h1:=O4.i;rw[IT,NS] at h1;exact aE h1 (nX o V.aa.size)
   have k4:KS (z (A w0)) XN w r:=(V.to (KS.q (X:=XN) A4 ly (nX o V.aa.size))).to (KS.of_grown G4 (nX (nX o V.aa.size) ZM) λq hq=>by
    have ZQ:q=z (A b):=(IH hq).c;refine⟨by rw[ZQ];exact nX o V.aa.size,.inr λl t fz ZR=>?_⟩;rw[ZQ] at ZR
    exact .inl (ar ZR (gM b _)))
   have ZZ:∀(W:E) (l:Array ZB) (t:ZK) (fz:Nat × Nat),W.heap[hb]?=r.heap[hb]?\/(∃c2,W.heap[hb]?=T (N c2 112 (0,0)))->W.heap[hb]?=T (N l t fz)->t=9\/t=168\/t=112:=λW l t fz hW ZR=>by
    rcases hW with hW|⟨c2,hW⟩
    {exact .inr (.inr (ar ZR (hW.k fd)))};{exact .inr (.inr (ar ZR hW))}
   refine⟨T (Q O 0 Z),c4,by rw[ZL];rfl,⟨_,_,_,_,_,(qh _ _ _ _ P).k ((qh _ _ _ _ P).k ((qh _ _ _ _ P).k (by rw[ZL];exact JP))),?_⟩,?_⟩;{show World.ownsRow _ _ _ _ _ (q_.drop j).length _;rw[ZL];exact aB (aB (aB (aB (aB (aB o4 M _ _) M _ _) M _ _) ZS _ _) ZS _ _) ZS _ _}
   ·have k7:=((k4.to (KS.setCell (X:=XN) r ex (.inr λl t fz=>ZZ _ l t fz (.inl rfl)) (J I 6) (j:=5))).to (KS.setCell (X:=XN) _ ex (.inr λl t fz=>ZZ _ l t fz (.inr ⟨_,n9⟩)) (U ⟨#[]⟩) (j:=6))).to (KS.setCell (X:=XN) _ ex (.inr λl t fz=>ZZ _ l t fz (.inr ⟨_,n8⟩)) (Y (T (Q O 0 Z)) (f - j) c4) (j:=7));refine((k7.k (KS.setCell (X:=λi=>i=z (A w)) _ o (Or.inl rfl) _) ?_).k (KS.setCell (X:=λi=>i=z (A w)) _ o (Or.inl rfl) _) ?_).k (KS.setCell (X:=λi=>i=z (A w)) _ o (Or.inl rfl) _) ?_;all_goals
     intro i hi h;have ZQ:i=z (A w):=h;omega
end
def gG (nm:F_):SM:=⟨nm,0,⟨#[]⟩,[],Y Z 0 0,ZA⟩
def Ge (w:E)(b g i l m n:ZB)(t:ZK):∀j u,[b,g,i,l,m,n][j]?=T u->(ZV w (N #[b,g,i,l,m,n] t)).cell? (((Q (z (A w)) 0 Z):Addr).add j)=T u:=by
 intro j u h;rw[addr_add];have hj:j<6:=by
  rcases OT j 6 with f|f;{exact f};{rw[NU (by simp;omega)] at h;cases h}
 rcases(show j=0\/j=1\/j=2\/j=3\/j=4\/j=5 by omega) with rfl|rfl|rfl|rfl|rfl|rfl;all_goals
  simp at h;subst h;simp
def pO (w:E)(v:ZB)(t:ZK):∀j u,[v][j]?=T u->(ZV w (N #[v] t)).cell? (((Q (z (A w)) 0 Z):Addr).add j)=T u:=by
 intro j u h;rw[addr_add];have f:j=0:=by
  rcases OT j 1 with b|b;{omega};{rw[NU (by simp;omega)] at h;cases h}
 subst f;simp at h;subst h;simp
def jZ{v:ZB}{f:List ZB}(h:ZY w b e size v n f):∃a j_,v=Y a n j_:=by
 obtain⟨_,⟨rfl,rfl⟩|⟨g,j_,cur,rfl,_⟩⟩:=h;{exact⟨Z,0,rfl⟩};{exact⟨_,_,rfl⟩}
def KS.fresh{W:E}(h:KS Z9 XN W w)(hb:z (A W)<=b)(g:Z9<=z (A W))(j:Nat)(u:ZB):KS Z9 XN W (B w (Q b j Z) u):=
 h.k (KS.setCell (X:=λi=>i=b) w (nX g hb) (Or.inl rfl) u) λi hi f=>by have e2:i=b:=f;omega
section
variable {w0 w:E}{hb:Nat}{s0 s1 or st:ZB}{q_:List F_}{jh:List zt}{L:List SM}
def SI.upd'{k:Nat}(l:ZU L=ZQ)(h:SI w0 hb s0 s1 w q_ jh L (Y (T (Q g 0 Z)) ZQ j_) or st)(b:L[k]?=T m)(i:j<6)(f:smV m'=(smV m).set j u)(n:m'.done=ZH->w.ownsRow (z (A w0)) 171 3 m'.sv (ZU m'.V) (eG m'.V)):SI w0 hb s0 s1 (B w (Q g (k*6+j) Z) u) q_ jh (L.set k m') (Y (T (Q g 0 Z)) ZQ j_) or st/\KS (z (A w0)) XN w (B w (Q g (k*6+j) Z) u)/\(L.set k m')[k]?=T m'/\(L.set k m').length=ZQ:=by subst l;have:=h.upd b i f n;rw[NJ] at this;exact⟨this.1,this.2,PH (j5.1 b).1,NJ⟩
def SI.told{k:Nat}(q:ZU L=ZQ)(h:SI w0 hb s0 s1 w q_ jh L (Y (T (Q g 0 Z)) ZQ j_) or st)(t:L[k]?=T m)(x:m.done=ZA)(b:Int)(f:F_):SI w0 hb s0 s1 (B (B (B w (Q g (k*6+1) Z) (J I b)) (Q g (k*6+1+1) Z) (U f)) (Q g (k*6+1+2) Z) (Y Z 0 0)) q_ jh (L.set k ⟨m.e,b,f,m.V,m.sv,ZA⟩) (Y (T (Q g 0 Z)) ZQ j_) or st/\KS (z (A w0)) XN w (B (B (B w (Q g (k*6+1) Z) (J I b)) (Q g (k*6+1+1) Z) (U f)) (Q g (k*6+1+2) Z) (Y Z 0 0))/\(L.set k ⟨m.e,b,f,m.V,m.sv,ZA⟩)[k]?=T ⟨m.e,b,f,m.V,m.sv,ZA⟩/\(L.set k ⟨m.e,b,f,m.V,m.sv,ZA⟩).length=ZQ:=by obtain⟨a1,s,y,r⟩:=h.upd' q t (j:=1) (by omega) (u:=J I b) (m':=⟨m.e,b,m.H,m.V,m.sv,ZA⟩) (by simp[smV,x]) (λh=>by cases h);obtain⟨o,Z8,Z9,p⟩:=a1.upd' r y (j:=2) (by omega) (u:=U f) (m':=⟨m.e,b,f,m.V,m.sv,ZA⟩) rfl (λh=>by cases h);obtain⟨i,ZZ,n,l⟩:=o.upd' p Z9 (j:=3) (by omega) (m':=⟨m.e,b,f,m.V,m.sv,ZA⟩) (u:=Y Z 0 0) rfl (λh=>by cases h);rw[V5,V5] at i n l;exact⟨i,(s.to Z8).to ZZ,n,l⟩
end
def Jt{ZZ:Int}(h0:0<=ZZ)(h1:ZZ<=1048576):IntKind.i64.wrap ZZ=ZZ:=by rw[nL];omega
def Jb{f:Nat}{t:ZK}{v:ZB}{j:Array ZB}{fz:Nat × Nat}(h:ZY w f e size v n l)(hb:w.heap[b]?=T (N j t fz))(g:e≠t):v.ownBlock≠T b:=λk=>by obtain⟨_,_,cs',i⟩:=af h b k;exact g (ar i hb)
def Jc{w':E}{v:ZB}{b:List ZB}(h:ZY w Z9 171 3 v n b)(f:KS Z9 XN w w'):ZY w' Z9 171 3 v n b:=b9 h λk e=>by obtain⟨_,_,cs,g⟩:=af h k e;exact f.ad _ _ _ _ g (by decide) (by decide) (by decide) λh=>h
def LExt.add (n:Nat)(L:List SM)(h:m.done=ZA):LExt n L (L++[m]):=by
 refine⟨λi g b=>⟨g,?_,rfl⟩,λg b f=>?_⟩;{rw[NI (j5.1 b).1];exact b};{rcases p8.1 b with b|b;{exact .inl ⟨g,b,f,rfl⟩};{rw[j4.1 b,h] at f;cases f}}
def LExt.set{k:Nat}{o:List SM}{f:SM}(h:LExt n L o)(r:o[k]?=T m)(u:f.e=m.e)(x:∀j,f.sv.ownBlock=T j->n<=j):LExt n L (o.set k f):=by
 refine⟨λi p b=>?_,λp b q=>?_⟩
 ·obtain⟨y,l,t⟩:=h.nam i p b;by_cases g:k=i
  ·subst g;rw[r] at l;cases l
   exact⟨f,PH (j5.1 r).1,u.k t⟩
  {exact⟨y,by rw[Q2 g];exact l,t⟩}
 {rcases OR b with s|rfl;{exact h.sn p s q};{exact .inr x}}
section
variable {w0:E}{S:x_}{a0 a1:O_}{c0 c1 hb:Nat}{md or st:ZB}{q_:List F_}{jh:List zt}{L:List SM}
def mI:(∀(C:pJ w0 S a0 a1) (w:E) (nm:F_) (h:SI w0 hb (Y a0 S.n0 c0) (Y a1 S.n1 c1) w q_ jh L md or st) (J9:ZU L<=100000) (LH:ZU jh<=100000) (h1:fI L nm=Z) (h3:atI (nm1 S.f1) S.n1 nm=Z) (f:Int) (tx:F_) (hw:(atI (nm0 S.f0) S.n0 nm=Z/\f=4/\tx=nm)\/∃si,atI (nm0 S.f0) S.n0 nm=T si/\f=0/\tx=(S.f0 si).H) (kd:Int) (te:F_),Calls Pg 98 #[.pointer (T (Q hb 0 Z)),U nm] w λe w'=>∃JR JU,e=ZI (ZJ #[J I f,U tx,Y Z 0 0])/\SI w0 hb (Y a0 S.n0 c0) (Y a1 S.n1 c1) w' q_ (jh++[⟨nm,kd,0,te,0,[]⟩]) ((L++[gG nm]).set (ZU L) ⟨nm,f,tx,[],Y Z 0 0,ZH⟩) JR JU st/\KS (z (A w0)) XN w w')/\(∀(C:pJ w0 S a0 a1) (w:E) (nm:F_) (h:SI w0 hb (Y a0 S.n0 c0) (Y a1 S.n1 c1) w q_ jh L md or st) (J9:ZU L<=100000) (h1:fI L nm=Z) (hi:atL q_ nm=Z) (tg:Nat) (h3:atI (nm1 S.f1) S.n1 nm=T tg) (X:Out zt) (hd:(ZU q_=60/\X=.inr (.inr nm))\/∃n',ZU q_+(n'+1)=60/\oe w0 S hb (Y a0 S.n0 c0) (Y a1 S.n1 c1) n'/\fM L q_ jh/\PG S q_ jh/\fm S q_ jh 1/\MT S q_/\aS jh nm=Z/\X=iF nm tg (bT S (aT S n' (q_++[nm])) tg 201 jh [] [])),Calls Pg 98 #[.pointer (T (Q hb 0 Z)),U nm] w λe w'=>mF w0 hb (Y a0 S.n0 c0) (Y a1 S.n1 c1) q_ L w e w' X):=by
 refine⟨λC w nm h J9 LH h1 h3 f tx hw kd te=>?_,λC w nm h J9 h1 hi tg h3 X hd=>?_⟩;rotate_left;focus
  rcases hd with⟨J5,hX⟩|⟨n',Ma,HK,hrel,hp,ur,Lz,ZN,hX⟩
  case' inl=>(subst hX;have DEEP:=True.intro)
  case' inr =>
   obtain⟨-,aq⟩:=Dk hrel ZN hi;have hmade:ZU jh<=50000:=by unfold fm at ur;omega
   have J5:ZU q_<60:=by omega
   have ph:=(bu h3).1;obtain⟨R,hR⟩:∃R,R=bT S (aT S n' (q_++[nm])) tg 201 jh [] []:=⟨_,rfl⟩
   have HR:=ae hR;obtain⟨tb,LF,LV,Ku⟩:=C.w.resolve_left (by omega);have Mq:=ae LV;have JZ:=ae Ku;have Kn:Hid (∀(W:E) (JR JU Ks:ZB) (a:O_) (j_:Nat),SI w0 hb (Y a0 S.n0 c0) (Y a1 S.n1 c1) W (q_++[nm]) jh (L++[gG nm]) JR JU Ks->SlIns w0 a (S.f1 tg).h (S.f1 tg).u->Calls Pg 140 #[.pointer (T (Q hb 0 Z)),ZJ #[Y a (S.f1 tg).h j_]] W λe w'=>pM w0 hb (Y a0 S.n0 c0) (Y a1 S.n1 c1) (q_++[nm]) (L++[gG nm]) W e w' R):=by
    intro W JR JU Ks a j_ hS J8;rw[hR];refine F8 C n' HK jh _ JR JU Ks W a j_ tg (by rw[cM,AI];omega) hS (tj hrel aq rfl rfl) (iH hp ZN) ?_ ?_ ph J8
    ·have:=gu ph (bu h3).2 ZN hi
     unfold fm at ur ⊢;omega
    ·intro t ht
     rcases p8.1 ht with ht|ht
     ·exact Lz t ht
     ·rw[j4.1 ht,h3];rfl
   have HI:=ae hi;have H0:=ae ZN;have Ly:Hid (∀ZT x,R=.inl (ZT,x)->ZU ZT<=100000/\∀y∈ZT,y.e≠nm):=by intro ZT x he;rw[hR] at he;have g1:=gS C.ok ph (dm C.ok n' (q_++[nm])) _ _ _ _ _ _ (iH hp ZN) (iv S jh) rfl he;have l:=sP (λmade MY Ls e=>iq S n' (q_++[nm]) jh MY Ls e) _ _ _ _ _ _ he;have g3:=gu ph (bu h3).2 ZN hi;refine⟨?_,(jB g1.1).2⟩;unfold fO at l;unfold fm at ur;omega
   have LB:=ae aq;have HREL:=ae hrel;subst hX;rw[<-hR];clear HK hp ur Lz ZN Ku LV hR aq hrel;clear Ma ph
 all_goals
  obtain⟨im,MC,Nf,Fk,Lj⟩:=lE FX;obtain⟨i1,Kz,Lm,Kl,Kk⟩:=lE pK;obtain⟨W0,J6⟩:∃W:E,ZV w (N #[J I 0,U ⟨#[]⟩,Y Z 0 0] 60)=W:=⟨_,rfl⟩
  obtain⟨A0,kr,-⟩:=nb1 J6;have Kp:=ae J6;clear J6;have S0:=ae (h.aa A0 ly);have D:z (A w0)<=z (A w):=h.lt;have e1:eh (fI L nm)=-1:=by rw[h1];rfl
  obtain⟨am,cm,rfl⟩:=jZ h.X;obtain⟨n,hn⟩:∃n,n=ZU L:=⟨_,rfl⟩
  have HN:=ae hn;have CC:=ae C;have hsm:=C.ok.bb;have hn1:n<=100000:=by omega
  clear h h1 hn C
 rotate_left 2;focus
  have et:eh (atI (nm1 S.f1) S.n1 nm)=-1:=by rw[h3];rfl
  rcases hw with⟨h2,At,KZ⟩|⟨si,h2,At,KZ⟩
  case' inl=>have es:eh (atI (nm0 S.f0) S.n0 nm)=-1:=by rw[h2];rfl
  case' inr =>
   have es:eh (atI (nm0 S.f0) S.n0 nm)=(si:Int):=by rw[h2];rfl
   have Ms:=(bu h2).1;obtain⟨sb,so,LE,Lu⟩:∃sb so,a0=T (Q sb so Z)/\RowSource w0 sb so S.n0 S.f0:=by
    rcases CC.src with h|⟨b,off,e,hr⟩
    ·omega
    ·exact⟨b,off,e,hr⟩
   have Kq:=ae Lu;have MG:=ae LE;clear Lu LE
  all_goals
   have LI:=ae KZ;have Lv:=ae At;clear h2 h3 KZ At
 rotate_left 2;iterate 2
  focus
   obtain⟨es0,es⟩:∃ZZ,eh (atI (nm0 S.f0) S.n0 nm)=ZZ:=⟨_,rfl⟩
   have et:eh (atI (nm1 S.f1) S.n1 nm)=(tg:Int):=by rw[h3];rfl
   have Ll:∀(j:Nat) (y:F_),q_[j]?=T y->(y.toList == nm.toList)=ZA:=λj y hy=>by unfold atL at hi;rw[SJ] at hi;exact hi y (I5 hy)
   have MJ:=ae Ll;obtain⟨ms,KH⟩:∃ms,ms=ZU q_:=⟨_,rfl⟩
   have fd:=ae KH;have hT0:(0:Int)<=(tg:Int):=by omega
   have ph:=(bu h3).1;rw[<-KH] at J5;obtain⟨LM,LP,rfl⟩:=jZ S0.rst;clear h3 hi Ll KH
  rotate_left
 all_goals
  go_enter func98,ntmps98;go_wp2_with fail;rw[Kp.i];clear Kp;refine(pI W0 nm S0 J9).P ?_;rintro e w1⟨rfl,LC⟩;rw[LC,e1];clear LC e1;obtain⟨H,-,-,b2,-⟩:=S0.ab.K;rw[<-HN.i] at b2;have A1:=ae ((BS W0).alloc ly (N #[U nm,J I 0,U ⟨#[]⟩,Y Z 0 0,Y Z 0 0,ZF ZA] 168));have SA:=ae (S0.aa A1 ly);have RM:=ae (by have h:=SA.X;rw[<-HN.i] at h;exact h);have My:z (A (ZV W0 (N #[U nm,J I 0,U ⟨#[]⟩,Y Z 0 0,Y Z 0 0,ZF ZA] 168)))=z (A W0)+1:=by simp
  have HG:Hid (∀ZS:E,(ZV W0 (N #[U nm,J I 0,U ⟨#[]⟩,Y Z 0 0,Y Z 0 0,ZF ZA] 168)).grownBy ZS (Value.slice am n cm).ownBlock->ZS.heap[hb]?=(ZV W0 (N #[U nm,J I 0,U ⟨#[]⟩,Y Z 0 0,Y Z 0 0,ZF ZA] 168)).heap[hb]?):=λZS hg=>hg.p hb (by omega) λe=>by obtain⟨_,_,cs,hc⟩:=af RM hb e.c;exact absurd (ar SA.ab hc) (by decide)
  have L9:z (A w0)<=z (A (ZV W0 (N #[U nm,J I 0,U ⟨#[]⟩,Y Z 0 0,Y Z 0 0,ZF ZA] 168))):=SA.lt;have hz1':z (A W0)<z (A (ZV W0 (N #[U nm,J I 0,U ⟨#[]⟩,Y Z 0 0,Y Z 0 0,ZF ZA] 168))):=by omega
  clear My
  go_upto_region 7 with (first
   |(at_builtin;refine cj _ rfl (.tmp 46) (.tmp 49) 110 rfl (z (A w0)) 168 im (ZJ #[U ⟨#[]⟩,J I 0,U ⟨#[]⟩,Y Z 0 0,Y Z 0 0,ZF ZA]) 6 96 underlying110 MC Nf Fk Lj rfl (by decide) (Y am n cm) n (L.flatMap smV) (by simp[Act.eval]) RM.i (Q (z (A W0)) 0 Z) 1 1 [U nm,J I 0,U ⟨#[]⟩,Y Z 0 0,Y Z 0 0,ZF ZA] (by simp[Act.eval]) rfl (Ge W0 _ _ _ _ _ _ _) (by simp[Value.oneCell']) (by unfold maxLen;omega) (by omega) L9 ?_;intro v2 ZS G o la;have O2:=ae G;have G2:=ae o;have LD:=ae (HG ZS o);obtain⟨l,Hx,cu2,rfl,Mm⟩:=G.2.resolve_left (λh=>by omega);clear Mm G o la;obtain⟨Mj,-,-,f2,-,-,-,-,-,-,ff⟩:=(ShBox.ad SA.ab LD).K;have Mw:=ff 2;clear ff)
   |fail)
  have SX:=ae (SA.addL (m:=gG nm) (w':=ZS) (v:=Y (T (Q l 0 Z)) (n+1) Hx) (by rw[<-HN.i];exact G2) (by rw[<-HN.i];exact O2) rfl);have S3:=ae SX.1;have K3:Hid (KS (z (A w0)) XN w (B ZS (Q hb 2 Z) (Y (T (Q l 0 Z)) (n+1) Hx))):=((KS.q (X:=XN) A0 ly D).to (KS.q A1 ly S0.lt)).to SX.2;have Kj:Hid ((B ZS (Q hb 2 Z) (Y (T (Q l 0 Z)) (n+1) Hx)).heap[z (A w)]?=T (N #[J I 0,U ⟨#[]⟩,Y Z 0 0] 60 (0,0))):=by have ZN:=(A1.p _ (ah kr)).k kr;exact(SX.2.ad _ _ _ _ ZN (by decide) (by decide) (by decide) λh=>h).k ZN
  have bt:(L++[gG nm]).length=n+1:=by rw[cM,AI,<-HN.i]
  have ex:Hid ((L++[gG nm])[n]?=T (gG nm)):=by rw[HN.i];show _=_;rw[KK ly,UV];rfl
  clear SX f2 Mw Mj b2 H RM SA A1 HG O2 G2 LD;generalize World.setCell ZS _ _=W3 at S3 K3 Kj ⊢;obtain⟨H,b0,b1,-⟩:=S3.ab.K;go_wp2_with fail;refine(iP a0 S.n0 c0 a1 S.n1 c1 S.f0 nm W3 (by omega) (CC.src.aa S3.ak ly)).P ?_;rintro e w4⟨he,hB⟩;rw[es] at he;subst he;have S4:=ae (S3.aa hB ly);have Kv:Hid (w4.heap[z (A w)]?=_):=(hB.p _ (ah Kj)).k Kj;have K4:=ae (K3.to (KS.q (X:=XN) hB ly S3.lt));clear hB b0 b1 H S3 K3 Kj;obtain⟨H,b0,b1,-⟩:=S4.ab.K;go_wp2_with fail;refine(iQ a0 S.n0 c0 a1 S.n1 c1 S.f1 nm w4 (by omega) (CC.w.aa S4.ak ly)).P ?_;rintro e P⟨he,hB⟩;rw[et] at he;subst he;have S5:=ae (S4.aa hB ly);have sm:Hid (P.heap[z (A w)]?=T (N #[J I 0,U ⟨#[]⟩,Y Z 0 0] 60 (0,0))):=(hB.p _ (ah Kv)).k Kv;have K5:=ae (K4.to (KS.q (X:=XN) hB ly S4.lt));clear hB b0 b1 H S4 K4 Kv A0 S0 kr
 iterate 2
  ·first
    |guard_hyp Kq
     have A5:=ae ((BS P).alloc ly (N #[J I 4,U nm,Y Z 0 0] 60));have Kx:=ae (S5.aa A5 ly);have hI0:(0:Int)<=(si:Int):=by omega
     have hI1:(si:Int)<(S.n0:Int):=by omega
     have q0:ZW (ZV P (N #[J I 4,U nm,Y Z 0 0] 60)) (Q hb 0 Z)=T (Y (T (Q sb so Z)) S.n0 c0):=by have h:=Kx.ab.K.2.1;rw[MG.i] at h;exact h
     have q1:ZW (ZV P (N #[J I 4,U nm,Y Z 0 0] 60)) (Q sb (so+si*2+1) Z)=T (U tx):=by rw[LI.i];exact((Kq.aa Kx.ak ly).2 si Ms).2
     have H:=S5.ab.K.1;have ql:sb<z (A P):=lj Kq.1 S5.lt;go_upto_region 13 with fail;clear q0 q1 ql H A5 Kx;obtain⟨s,J0⟩:∃W:E,ZV P (N #[J I 0,U tx,Y Z 0 0] 60)=W:=⟨_,rfl⟩
     obtain⟨A6,-,-⟩:=nb1 J0;have JX:=ae J0;clear J0;have ZM:Hid (s.heap[z (A P)]?=T (N #[J I f,U tx,Y Z 0 0] 60 (0,0))):=by rw[<-JX.i];rw[Lv.i];exact gM _ _
     rw[JX.i];clear JX
    |skip
     go_upto_region 13 with fail;have ZM:Hid ((ZV P (N #[J I 4,U nm,Y Z 0 0] 60)).heap[z (A P)]?=T (N #[J I f,U tx,Y Z 0 0] 60 (0,0))):=by rw[Lv.i,LI.i];exact gM _ _
     have A6:=ae ((BS P).alloc ly (N #[J I 4,U nm,Y Z 0 0] 60));generalize World.alloc P _=s at A6 ZM ⊢
   have ZP:=ae (S5.aa A6 ly);have ro:Hid (s.heap[z (A w)]?=T (N #[J I 0,U ⟨#[]⟩,Y Z 0 0] 60 (0,0))):=(A6.p _ (ah sm)).k sm;have K6:=ae (K5.to (KS.q (X:=XN) A6 ly S5.lt));obtain⟨rb,JM⟩:∃rb,rb=z (A P):=⟨_,rfl⟩
   rw[<-JM] at ZM ⊢;have Mf:z (A w)<=rb:=by have:=K5.aa.size;omega
   clear JM A6 S5 sm K5;obtain⟨H,-,-,b2,-⟩:=ZP.ab.K;obtain⟨rl,r0,r1,r2,-⟩:=bR ZM;obtain⟨Mc,LX,J7,DE⟩:=af ZP.X l rfl;have DQ:=ae DE;have R6:=ae (by have h:=ZP.X;rw[bt] at h;exact h);have q1:ZW s (Q l (n*6+1) Z)=T (J I 0):=cJ (by rw[bt];exact R6) ex 1 (by omega) rfl;have q2:ZW s (Q l (n*6+1+1) Z)=T (U ⟨#[]⟩):=cJ (by rw[bt];exact R6) ex 2 (by omega) rfl;have q3:ZW s (Q l (n*6+1+2) Z)=T (Y Z 0 0):=cJ (by rw[bt];exact R6) ex 3 (by omega) rfl;have qf:∀j,ZX s (Q l j Z)=ZA:=λj=>by simp[World.frozen?,DE]
   have Ko:=qf (n*6+1);have KV:=qf (n*6+1+1);have Km:=qf (n*6+1+2);clear qf DE;have Nc:(n:Int)<(n:Int)+1:=by omega
   have ld:l≠hb:=by intro e;have h:=DQ.i;rw[e] at h;exact absurd (ar h ZP.ab) (by decide)
   have r:l≠rb:=by intro e;have h:=DQ.i;rw[e] at h;exact absurd (ar h ZM) (by decide)
   refine wp_region_held_drew (S:=λV=>ZW V (Q hb 2 Z)=T (Y (T (Q l 0 Z)) (n+1) Hx)/\ZW V (Q rb 0 Z)=T (J I f)/\ZW V (Q rb 1 Z)=T (U tx)/\ZW V (Q rb 2 Z)=T (Y Z 0 0)) (by kernel_rfl) ⟨b2,r0,r1,r2⟩ λhS=>?_;have HS:=ae hS;clear hS
   iterate 8
    first|refine aN 0 (v:=?_) rfl rfl (by kernel_rfl) (λ_ _ _ h=>h) rfl ?_ HS ?_|refine aN 4 (v:=?_) rfl rfl (by kernel_rfl) (λ_ _ _ h=>h) rfl ?_ HS ?_
    rotate_left
    ·(rintro wz⟨s0,s1,s2,s3⟩;go_simp)
     (try with_reducible rfl)
    (try simp only[Act.put,yh])
   have TL:=ae (ZP.told bt ex rfl f tx)
   have JW:Hid ((B (B (B s (Q l (n*6+1) Z) (J I f)) (Q l (n*6+1+1) Z) (U tx)) (Q l (n*6+1+2) Z) (Y Z 0 0)).drew.cell? (Q hb 2 Z)=T (Y (T (Q l 0 Z)) (n+1) Hx)/\(B (B (B s (Q l (n*6+1) Z) (J I f)) (Q l (n*6+1+1) Z) (U tx)) (Q l (n*6+1+2) Z) (Y Z 0 0)).drew.cell? (Q rb 0 Z)=T (J I f)/\(B (B (B s (Q l (n*6+1) Z) (J I f)) (Q l (n*6+1+1) Z) (U tx)) (Q l (n*6+1+2) Z) (Y Z 0 0)).drew.cell? (Q rb 1 Z)=T (U tx)/\(B (B (B s (Q l (n*6+1) Z) (J I f)) (Q l (n*6+1+1) Z) (U tx)) (Q l (n*6+1+2) Z) (Y Z 0 0)).drew.cell? (Q rb 2 Z)=T (Y Z 0 0)):=
    ⟨(K_ _ _ _ _ ld).k ((K_ _ _ _ _ ld).k ((K_ _ _ _ _ ld).k b2)),(K_ _ _ _ _ r).k ((K_ _ _ _ _ r).k ((K_ _ _ _ _ r).k r0)),(K_ _ _ _ _ r).k ((K_ _ _ _ _ r).k ((K_ _ _ _ _ r).k r1)),(K_ _ _ _ _ r).k ((K_ _ _ _ _ r).k ((K_ _ _ _ _ r).k r2))⟩
   refine aL (i:=8) rfl (by kernel_rfl) λK hK=>?_;go_simp;refine hK _ _ JW ?_;clear hK K HS q1 q2 q3 Ko KV Km b2 r0 r1 r2 rl
   (try simp only[Act.put])
   refine wpAnyH_done (by kernel_rfl) ?_ _;have D7:Hid (Below (z (A (B (B (B s (Q l (n*6+1) Z) (J I f)) (Q l (n*6+1+1) Z) (U tx)) (Q l (n*6+1+2) Z) (Y Z 0 0)))) (B (B (B s (Q l (n*6+1) Z) (J I f)) (Q l (n*6+1+1) Z) (U tx)) (Q l (n*6+1+2) Z) (Y Z 0 0)) (B (B (B s (Q l (n*6+1) Z) (J I f)) (Q l (n*6+1+1) Z) (U tx)) (Q l (n*6+1+2) Z) (Y Z 0 0)).drew):=br.drew;have S7:=ae (TL.1.aa D7 ly);have K7:=ae (K6.to (TL.2.1.to (KS.q (X:=XN) D7 ly TL.1.lt)));have JV:=TL.2.2.1;have JQ:=TL.2.2.2;have O:Hid ((B (B (B s (Q l (n*6+1) Z) (J I f)) (Q l (n*6+1+1) Z) (U tx)) (Q l (n*6+1+2) Z) (Y Z 0 0)).drew.heap[z (A w)]?=T (N #[J I 0,U ⟨#[]⟩,Y Z 0 0] 60 (0,0))):=by have ZN:=(TL.2.1.ad _ _ _ _ ro (by decide) (by decide) (by decide) λh=>h).k ro;exact ZN
   have mv:Hid ((B (B (B s (Q l (n*6+1) Z) (J I f)) (Q l (n*6+1+1) Z) (U tx)) (Q l (n*6+1+2) Z) (Y Z 0 0)).drew.heap[rb]?=T (N #[J I f,U tx,Y Z 0 0] 60 (0,0))):=by have ZN:=(TL.2.1.ad _ _ _ _ ZM (by decide) (by decide) (by decide) λh=>h).k ZM;exact ZN
   have Id:=ae JV;have GS:=ae JQ;clear TL JW JV JQ ro ZM K6 ZP R6 DQ D7;generalize World.drew (World.setCell (World.setCell (World.setCell s _ _) _ _) _ _)=W7 at S7 K7 O mv ⊢;obtain⟨H,-,-,b2,-⟩:=S7.ab.K;obtain⟨Ka,Kb,LU,qr⟩:=af S7.X l rfl;have q5:ZW W7 (Q l (n*6+5) Z)=T (ZF ZA):=cJ (by have h:=S7.X;rw[GS.i] at h ⊢;exact h) Id 5 (by omega) rfl;have Lr:ZX W7 (Q l (n*6+5) Z)=ZA:=by simp[World.frozen?,qr]
   have TD:=ae (S7.upd' GS Id (j:=5) (by omega) (u:=ZF ZH) (m':=⟨nm,f,tx,[],Y Z 0 0,ZH⟩) rfl (λ_=>⟨rfl,.inl ⟨rfl,rfl⟩⟩));have Z8:Hid ((B W7 (Q l (n*6+5) Z) (ZF ZH)).heap[z (A w)]?=T (N #[J I 0,U ⟨#[]⟩,Y Z 0 0] 60 (0,0))):=(TD.2.1.ad _ _ _ _ O (by decide) (by decide) (by decide) λh=>h).k O;have ZL:Hid ((B W7 (Q l (n*6+5) Z) (ZF ZH)).heap[rb]?=T (N #[J I f,U tx,Y Z 0 0] 60 (0,0))):=(TD.2.1.ad _ _ _ _ mv (by decide) (by decide) (by decide) λh=>h).k mv;have S8:=ae TD.1;have K8:=ae (K7.to TD.2.1);clear qr;go_upto_region 15 with fail;clear b2 q5 Lr TD S7 K7 O mv;generalize World.setCell W7 _ _=ZR at S8 K8 Z8 ZL ⊢;obtain⟨ao,co,rfl⟩:=jZ S8.ror;obtain⟨q,hq⟩:∃q,q=ZU jh:=⟨_,rfl⟩
   have HQ:=ae hq;rw[<-hq] at LH;clear hq;obtain⟨H,-,-,-,b3,-⟩:=S8.ab.K;rw[<-HQ.i] at b3;have M:=ae ((BS ZR).alloc ly (N #[U nm] 9));have S9:=ae (S8.aa M ly);have RO:=ae (by have h:=S9.ror;rw[<-HQ.i] at h;exact h);have JY:z (A w0)<=z (A (ZV ZR (N #[U nm] 9))):=S9.lt;have HG:Hid (∀ZS:E,(ZV ZR (N #[U nm] 9)).grownBy ZS (Value.slice ao q co).ownBlock->ZS.heap[hb]?=(ZV ZR (N #[U nm] 9)).heap[hb]?/\ZS.heap[z (A w)]?=(ZV ZR (N #[U nm] 9)).heap[z (A w)]?/\ZS.heap[rb]?=(ZV ZR (N #[U nm] 9)).heap[rb]?):=λZS hg=>by
    have aq:∀(i:Nat) (cs:Array ZB) (t:ZK) (fz:Nat × Nat),(ZV ZR (N #[U nm] 9)).heap[i]?=T (Obj.cells cs t fz)->t≠9->ZS.heap[i]?=(ZV ZR (N #[U nm] 9)).heap[i]?:=λi cs t fz hi ht=>hg.p i (ah hi) λe=>by obtain⟨_,_,J7,hc⟩:=af RO i e.c;exact ht (ar hi hc)
    exact⟨aq _ _ _ _ S9.ab (by decide),aq _ _ _ _ ((M.p _ (ah Z8)).k Z8) (by decide),aq _ _ _ _ ((M.p _ (ah ZL)).k ZL) (by decide)⟩
   have JL:Hid ((ZV ZR (N #[U nm] 9)).heap[z (A w)]?=T (N #[J I 0,U ⟨#[]⟩,Y Z 0 0] 60 (0,0))):=(M.p _ (ah Z8)).k Z8;have Lf:Hid ((ZV ZR (N #[U nm] 9)).heap[rb]?=T (N #[J I f,U tx,Y Z 0 0] 60 (0,0))):=(M.p _ (ah ZL)).k ZL;have hbw:¬ hb=z (A w):=λe=>by have h:=S8.ab;unfold ShBox at h;rw[e] at h;exact absurd (ar h Z8) (by decide)
   have Fd:¬ (z (A w))=hb:=λe=>hbw e.c;have Kw:¬ hb=rb:=λe=>by have h:=S8.ab;unfold ShBox at h;rw[e] at h;exact absurd (ar h ZL) (by decide)
   have Mg:¬ rb=hb:=λe=>Kw e.c
   go_wp2_with (first
    |(at_builtin;refine cj _ rfl (.tmp 100) (.tmp 102) 43 rfl (z (A w0)) 9 i1 (U ⟨#[]⟩) 1 16 NH Kz Lm Kl Kk rfl (by decide) (Y ao q co) q (bO (jh.map (·.e))) (by simp[Act.eval]) RO.i (Q (z (A ZR)) 0 Z) 1 1 [U nm] (by simp[Act.eval]) rfl (pO ZR _ _) (by simp[Value.oneCell']) (by unfold maxLen;omega) (by omega) JY ?_;intro v9 w9 G o la;have O9:=ae G;have G9:=ae o;have Lo:=ae la;have n8:=ae (HG w9 o);obtain⟨g9,c9,Na,rfl,KP⟩:=G.2.resolve_left (λh=>by omega);clear KP G o la;obtain⟨Mk,-,-,-,f3,-,-,-,-,-,ff⟩:=(ShBox.ad S9.ab n8.1).K;have MQ:=ff 3;obtain⟨rl,r0,r1,r2,rf⟩:=bR (n8.2.1.k JL);have Lg:=rf 0;have Lq:=rf 1;have La:=rf 2;obtain⟨pl,p0,p1,p2,pf⟩:=bR (n8.2.2.k Lf);clear ff rf pf)
    |fail)
   have JS:=ae (S9.ord (x:=⟨nm,kd,0,te,0,[]⟩) (w':=w9) (v:=Y (T (Q g9 0 Z)) (q+1) c9) (by rw[<-HQ.i];exact G9) (by rw[<-HQ.i];exact O9) (by rw[<-HQ.i];exact Lo));refine bp (v:=ZJ #[J I f,U tx,Y Z 0 0]) (by simp[results,TM,go_sem,r0,r1,r2]) rfl ?_;have JP:=(qh w9 (Q hb 3 Z) (Y (T (Q g9 0 Z)) (q+1) c9) (z (A w)) Fd).k (n8.2.1.k JL);refine⟨Y (T (Q l 0 Z)) (n+1) Hx,Y (T (Q g9 0 Z)) (q+1) c9,rfl,?_,?_⟩
   ·rw[<-HN.i]
    have x0:=JS.1;rw[V5] at x0;replace x0:=x0.ag JP ⟨by decide,by decide,by decide,by decide⟩ D 0 (J I f);have y0:=aw JP (j:=0) (J I f);have x1:=x0.ag y0 ⟨by decide,by decide,by decide,by decide⟩ D 1 (U tx);exact x1.ag (aw y0 (j:=1) (U tx)) ⟨by decide,by decide,by decide,by decide⟩ D 2 (Y Z 0 0)
   ·have k0:=(K8.to (KS.q (X:=XN) M ly S8.lt)).to JS.2
    exact((k0.fresh ly D 0 _).fresh ly D 1 _).fresh ly D 2 _
 all_goals
  obtain⟨H,-,-,-,-,b4,b5,b6,b7,b8,bf⟩:=S5.ab.K;have Le:=bf 4;have Mt:=bf 5;have Mz:=bf 6;have Ml:=bf 7;have MZ:=bf 8;rw[<-fd.i] at b4;clear bf;go_wp2_with fail;go_loop [9] (λi=>∃j:Nat,j<=ms/\i=J I j) (λi=>ms - (intOf i).toNat);case atStart=>exact⟨0,by omega,rfl⟩
  case' round =>
  obtain⟨j,hj,rfl⟩:=hrel;by_cases hlt:j<ms
  ·obtain⟨y,hy⟩:∃y,q_[j]?=T y:=⟨_,gq (by have:=fd.i;omega)⟩
   obtain⟨gs,cs,cus,ev,-⟩:=S5.rst.2.resolve_left (λh=>by have:=fd.i;omega);rw[<-fd.i] at ev;cases ev
   have dj:ZW P (Q gs j Z)=T (U y):=wk S5.rst hy;have hjm:(j:Int)<(ms:Int):=by omega
   have LB:=ae (MJ j y hy);clear hy;have aq:=LB.i;go_wp2;exact⟨⟨j+1,by omega,by go_num⟩,by simp[intOf];omega⟩
  obtain rfl:j=ms:=by omega
 ·have hI60:¬ (60:Int)<=(j:Int):=by omega
  clear b5 b6 b7 b8 Mt Mz Ml MZ;have A6:=ae ((BS P).alloc ly (N #[U nm] 9));have ZP:=ae (S5.aa A6 ly);have RS:=ae (by have h:=ZP.rst;rw[<-fd.i] at h;exact h);have Ln:z (A w0)<=z (A (ZV P (N #[U nm] 9))):=ZP.lt;obtain⟨q0,aa,ca,q1,-⟩:=(JZ.aa ZP.ak ly).2 tg ph;obtain⟨-,aa',ca',LG,J8⟩:=JZ.2 tg ph;have J4:=JZ.1;have e1:=(ZP.ak.O (p:=(Q tb (LF+tg*2+1) Z)) J4).k LG;rw[q1] at e1;simp only[ND,IN,TX] at e1;obtain⟨rfl,rfl⟩:=e1;have Nb:=ae J8;have Q1:=ae q1;clear q0 q1 LG J8;have KM:Hid ((ZV P (N #[U nm] 9)).heap[z (A w)]?=T (N #[J I 0,U ⟨#[]⟩,Y Z 0 0] 60 (0,0))):=(A6.p _ (ah sm)).k sm;have HG:Hid (∀ZS:E,(ZV P (N #[U nm] 9)).grownBy ZS (Value.slice LM j LP).ownBlock->ZS.heap[hb]?=(ZV P (N #[U nm] 9)).heap[hb]?/\ZS.heap[tb]?=(ZV P (N #[U nm] 9)).heap[tb]?):=λZS hg=>by
   refine⟨hg.p hb (ah ZP.ab) λe=>?_,hg.p tb (lj J4 Ln) λe=>?_⟩;{obtain⟨_,_,J7,hc⟩:=af RS hb e.c;exact absurd (ar ZP.ab hc) (by decide)};{have:=(af RS tb e.c).1;omega}
  have Mx:z (A w0)<=hb:=S5.hbB;have htbh:¬ tb=hb:=by omega
  have htbh':¬ hb=tb:=by omega
  have htI:(tg:Int)<(S.n1:Int):=by omega
  go_wp2_with (first
   |(at_builtin;refine cj _ rfl (.tmp 166) (.tmp 168) 43 rfl (z (A w0)) 9 i1 (U ⟨#[]⟩) 1 16 NH Kz Lm Kl Kk rfl (by decide) (Y LM j LP) j (bO q_) (by simp[Act.eval]) RS.i (Q (z (A P)) 0 Z) 1 1 [U nm] (by simp[Act.eval]) rfl (pO P _ _) (by simp[Value.oneCell']) (by unfold maxLen;omega) (by omega) Ln ?_;intro v7 w7 G o la;have O7:=ae G;have G7:=ae o;have LQ:=ae la;have Lh:=ae (HG w7 o);obtain⟨g7,c7,cu7,rfl,Mn⟩:=G.2.resolve_left (λh=>by omega);clear Mn G o la;obtain⟨KI,-,f1,-,-,f4,-,-,-,-,ff⟩:=(ShBox.ad ZP.ab Lh.1).K;have MR:=ff 4;rw[Mq.i] at f1;have f9:=(cq (a:=(Q tb (LF+tg*2+1) Z)) Lh.2).k Q1.i;have Mr:tb<z (A w7):=(lj (lj J4 Mx) (TQ KI));clear ff)
   |fail)
  have SP:=ae (ZP.push (nm:=nm) (w':=w7) (v:=Y (T (Q g7 0 Z)) (j+1) c7) (by rw[<-fd.i];exact G7) (by rw[<-fd.i];exact O7) (by rw[<-fd.i];exact LQ));have S7:=ae SP.1;have K7:Hid (KS (z (A w0)) XN w (B w7 (Q hb 4 Z) (Y (T (Q g7 0 Z)) (j+1) c7))):=(K5.to (KS.q (X:=XN) A6 ly S5.lt)).to SP.2;have O:Hid ((B w7 (Q hb 4 Z) (Y (T (Q g7 0 Z)) (j+1) c7)).heap[z (A w)]?=T (N #[J I 0,U ⟨#[]⟩,Y Z 0 0] 60 (0,0))):=(SP.2.ad _ _ _ _ KM (by decide) (by decide) (by decide) λh=>h).k KM;clear SP f1 f4 f9 MR KI Mr O7 G7 LQ Lh HG RS ZP A6 KM Q1 S5 K5 sm b4 Le H;generalize World.setCell w7 _ _=W7 at S7 K7 O ⊢;refine(Kn W7 _ _ _ aa ca S7 Nb).P ?_;clear Kn;rintro e w8 JJ;rcases R with⟨ZT,x⟩|c|d
  ·obtain⟨L1,md1,MP,st1,gx,cx,rfl,JO,th,Kc,Mh,Ld,n9⟩:=JJ;obtain⟨LZ,Kr⟩:=Ly.i ZT x rfl;clear Ly;obtain⟨f,At⟩:∃f,f=x.1.M:=⟨_,rfl⟩
   obtain⟨Z9,Lc⟩:∃Z9,Z9=x.1.H:=⟨_,rfl⟩
   obtain⟨ls,Kf⟩:∃ls,ls=x.2:=⟨_,rfl⟩
   obtain⟨ln,Kh⟩:∃ln,ln=ZU ls:=⟨_,rfl⟩
   have KN:iF nm tg (.inl (ZT,x))=.inl ((ZT++[⟨nm,3,f,Z9,tg,ls⟩]),⟨nm,3,f,Z9,tg,ls⟩):=by rw[At,Lc,Kf];rfl
   have Me:=ae KN;rw[<-Kf,<-Kh] at Kc;rw[<-At,<-Lc,<-Kf,<-Kh];clear KN At Lc Kf;have Mb:=ae Kh;clear Kh;obtain⟨m1,Fk,Bk⟩:=Ld.nam n (gG nm) ex;replace Bk:m1.e=nm:=Bk;have Mp:Hid (m1.done=ZA):=by
    obtain⟨m2,Lj,e2,e3⟩:=th.mkg nm (PK _ (j4.2 rfl));obtain⟨i2,Li⟩:=PE Lj;have e4:=yD th.nod Li Fk (e2.k Bk.c);rw[e4,Fk] at Li;cases Li
    exact e3
   have ex:=ae Fk;obtain⟨ZQ,hN⟩:∃ZQ,ZQ=ZU L1:=⟨_,rfl⟩
   have bt:ZU L1=ZQ:=hN.c;have hnN:n<ZQ:=by rw[hN];exact(j5.1 Fk).1
   obtain⟨g,JT,cum,rfl,-⟩:=JO.X.2.resolve_left (λh=>by omega);obtain⟨gp,ZO,cup,rfl,LL⟩:=JO.rst.2.resolve_left (λh=>by rw[cM,AI] at h;omega);have hcp:j+1<=ZO:=by have:=LL.2.2.1;rw[cM,AI,<-fd.i] at this;exact this
   rw[bt,cM,AI,<-fd.i] at JO;have KW:=ae (K7.to n9);have Z8:Hid (w8.heap[z (A w)]?=T (N #[J I 0,U ⟨#[]⟩,Y Z 0 0] 60 (0,0))):=(n9.ad _ _ _ _ O (by decide) (by decide) (by decide) λh=>h).k O;have KJ:z (A w)<=z (A W7):=K7.aa.size;have X8:=ae (((LExt.add (z (A w)) L (m:=gG nm) rfl).k Ld KJ));have MV:Hid (z (A w)<=gx):=nX KJ (af Kc gx rfl).1;have MO:=ae (aE Kc (nX D KJ));have Mi:=ae th;have hw8:z (A w)<=z (A w8):=KW.aa.size;have Lb:=ae JO;have KU:=ae Bk;have Md:=ae Kr;clear JO th Kc Mh Ld n9 Bk Fk Kr LL S7 K7 O hN;have M:=ae ((BS w8).alloc ly (N #[J I f,U Z9,Y Z 0 0] 60));have ZM:Hid ((ZV w8 (N #[J I f,U Z9,Y Z 0 0] 60)).heap[z (A w8)]?=T (N #[J I f,U Z9,Y Z 0 0] 60 (0,0))):=gM _ _;have Kd:=ae (Lb.aa M ly);have K9:=ae (KS.q (X:=XN) M ly Lb.lt);have Ke:Hid ((ZV w8 (N #[J I f,U Z9,Y Z 0 0] 60)).heap[z (A w)]?=T (N #[J I 0,U ⟨#[]⟩,Y Z 0 0] 60 (0,0))):=(M.p _ (ah Z8)).k Z8;go_upto_region 30 with fail;generalize World.alloc w8 _=W9 at M ZM Kd K9 Ke ⊢;obtain⟨rb,JM⟩:∃rb,rb=z (A w8):=⟨_,rfl⟩
   rw[<-JM] at ZM ⊢;have Mf:z (A w)<=rb:=by omega
   clear JM M Lb Z8;obtain⟨H,-,-,-,-,b4,-,-,-,b8,bf⟩:=Kd.ab.K;have Le:=bf 4;clear bf;go_upto_region 32 with fail;have Nd:IntKind.i64.wrap (j:Int)=(j:Int):=Jt (by omega) (by omega);have Mv:(0:Int)<=(j:Int):=by omega
   have MW:(j:Int)<=(ZO:Int):=by omega
   refine aI (λV=>ZW V (Q hb 4 Z)=T (Y (T (Q gp 0 Z)) (j+1) ZO)) 14 (by kernel_rfl) ?_;have HS:Hid (W9.drew.cell? (Q hb 4 Z)=T (Y (T (Q gp 0 Z)) (j+1) ZO)):=b4;iterate 10
    refine aO 0 (v:=?_) rfl rfl (by kernel_rfl) (λ_ _ _ h=>h) rfl ?_ HS ?_;rotate_left
    ·(intro wz s0;go_simp)
     (try with_reducible rfl)
    (try simp only[Act.put,yh])
   refine fs (i:=10) (v:=J I (j:Int)) rfl (by kernel_rfl) (by kernel_rfl) (by kernel_rfl) (by kernel_rfl) (λ_ _ _ h=>h) rfl ?_ HS ?_;{intro wz s0;go_simp}
   (try simp only[Act.put,yh])
   refine fs (i:=11) (v:=Y (T (Q gp 0 Z)) j ZO) rfl (by kernel_rfl) (by kernel_rfl) (by kernel_rfl) (by kernel_rfl) (λ_ _ _ h=>h) rfl ?_ HS ?_;{intro wz s0;go_simp}
   (try simp only[Act.put,yh])
   iterate 2
    refine bV 12 rfl rfl (by kernel_rfl) λK hK=>?_;go_simp;refine hK _ _ (λ_=>HS) ?_;clear hK K
    (try simp only[Act.put,yh])
   have PP:Hid (SI w0 hb (Y a0 S.n0 c0) (Y a1 S.n1 c1) (B W9 (Q hb 4 Z) (Y (T (Q gp 0 Z)) j ZO)) q_ ZT L1 (Y (T (Q g 0 Z)) ZQ JT) MP (Y (T (Q gp 0 Z)) j ZO)/\KS (z (A w0)) XN W9 (B W9 (Q hb 4 Z) (Y (T (Q gp 0 Z)) j ZO))):=by have h:=Kd.i;rw[fd.i] at h ⊢;exact h.pop
   refine ai (i:=14) rfl (by kernel_rfl) λK hK=>?_;go_simp;refine hK _ _ (λh=>absurd rfl h) ?_;clear hK K HS b4 Le b8
   (try simp only[Act.put])
   refine ba (by kernel_rfl) ?_ _;have D6:Hid (Below (z (A (B W9 (Q hb 4 Z) (Y (T (Q gp 0 Z)) j ZO)))) (B W9 (Q hb 4 Z) (Y (T (Q gp 0 Z)) j ZO)) (B W9 (Q hb 4 Z) (Y (T (Q gp 0 Z)) j ZO)).drew):=br.drew;have ZP:=ae (PP.1.aa D6 ly);have K6:=ae ((K9.to PP.2).to (KS.q (X:=XN) D6 ly PP.1.lt));have ro:Hid ((B W9 (Q hb 4 Z) (Y (T (Q gp 0 Z)) j ZO)).drew.heap[z (A w)]?=T (N #[J I 0,U ⟨#[]⟩,Y Z 0 0] 60 (0,0))):=(PP.2.ad _ _ _ _ Ke (by decide) (by decide) (by decide) λh=>h).k Ke;have KO:Hid ((B W9 (Q hb 4 Z) (Y (T (Q gp 0 Z)) j ZO)).drew.heap[rb]?=T (N #[J I f,U Z9,Y Z 0 0] 60 (0,0))):=(PP.2.ad _ _ _ _ ZM (by decide) (by decide) (by decide) λh=>h).k ZM;clear PP D6 Kd K9 Ke ZM Nd Mv MW H;generalize World.drew (World.setCell W9 _ _)=s at ZP K6 ro KO ⊢;have ZM:=ae KO.i;clear KO;go_upto_region 33 with fail;obtain⟨H,-,-,b2,-⟩:=ZP.ab.K;obtain⟨rl,r0,r1,r2,-⟩:=bR ZM;obtain⟨Mc,LX,J7,DE⟩:=af ZP.X g rfl;have DQ:=ae DE;have R6:Hid (ZY s (z (A w0)) 168 6 (Y (T (Q g 0 Z)) ZQ JT) ZQ (L1.flatMap smV)):=by have h:=ZP.X;rw[bt] at h;exact h
   have q1:ZW s (Q g (n*6+1) Z)=T (J I m1.M):=cJ (by rw[bt];exact R6) ex 1 (by omega) rfl;have q2:ZW s (Q g (n*6+1+1) Z)=T (U m1.H):=cJ (by rw[bt];exact R6) ex 2 (by omega) rfl;have q3:ZW s (Q g (n*6+1+2) Z)=T (Y Z 0 0):=cJ (by rw[bt];exact R6) ex 3 (by omega) rfl;have qf:∀j,ZX s (Q g j Z)=ZA:=λj=>by simp[World.frozen?,DE]
   have Ko:=qf (n*6+1);have KV:=qf (n*6+1+1);have Km:=qf (n*6+1+2);clear qf DE;have Nc:(n:Int)<(ZQ:Int):=by omega
   have ld:g≠hb:=by intro e;have h:=DQ.i;rw[e] at h;exact absurd (ar h ZP.ab) (by decide)
   have r:g≠rb:=by intro e;have h:=DQ.i;rw[e] at h;exact absurd (ar h ZM) (by decide)
   refine wp_region_held_drew (S:=λV=>ZW V (Q hb 2 Z)=T (Y (T (Q g 0 Z)) ZQ JT)/\ZW V (Q rb 0 Z)=T (J I f)/\ZW V (Q rb 1 Z)=T (U Z9)/\ZW V (Q rb 2 Z)=T (Y Z 0 0)) (by kernel_rfl) ⟨b2,r0,r1,r2⟩ λhS=>?_;have HS:=ae hS;clear hS;iterate 8
    first|refine aN 0 (v:=?_) rfl rfl (by kernel_rfl) (λ_ _ _ h=>h) rfl ?_ HS ?_|refine aN 4 (v:=?_) rfl rfl (by kernel_rfl) (λ_ _ _ h=>h) rfl ?_ HS ?_
    rotate_left
    ·(rintro wz⟨s0,s1,s2,s3⟩;go_simp)
     (try with_reducible rfl)
    (try simp only[Act.put,yh])
   have TL:=ae (ZP.told bt ex Mp f Z9);have JW:Hid ((B (B (B s (Q g (n*6+1) Z) (J I f)) (Q g (n*6+1+1) Z) (U Z9)) (Q g (n*6+1+2) Z) (Y Z 0 0)).drew.cell? (Q hb 2 Z)=T (Y (T (Q g 0 Z)) ZQ JT)/\(B (B (B s (Q g (n*6+1) Z) (J I f)) (Q g (n*6+1+1) Z) (U Z9)) (Q g (n*6+1+2) Z) (Y Z 0 0)).drew.cell? (Q rb 0 Z)=T (J I f)/\(B (B (B s (Q g (n*6+1) Z) (J I f)) (Q g (n*6+1+1) Z) (U Z9)) (Q g (n*6+1+2) Z) (Y Z 0 0)).drew.cell? (Q rb 1 Z)=T (U Z9)/\(B (B (B s (Q g (n*6+1) Z) (J I f)) (Q g (n*6+1+1) Z) (U Z9)) (Q g (n*6+1+2) Z) (Y Z 0 0)).drew.cell? (Q rb 2 Z)=T (Y Z 0 0)):=
    ⟨(K_ _ _ _ _ ld).k ((K_ _ _ _ _ ld).k ((K_ _ _ _ _ ld).k b2)),(K_ _ _ _ _ r).k ((K_ _ _ _ _ r).k ((K_ _ _ _ _ r).k r0)),(K_ _ _ _ _ r).k ((K_ _ _ _ _ r).k ((K_ _ _ _ _ r).k r1)),(K_ _ _ _ _ r).k ((K_ _ _ _ _ r).k ((K_ _ _ _ _ r).k r2))⟩
   refine aL (i:=8) rfl (by kernel_rfl) λK hK=>?_;go_simp;refine hK _ _ JW ?_;clear hK K HS q1 q2 q3 Ko KV Km b2 r0 r1 r2 rl
   (try simp only[Act.put])
   refine wpAnyH_done (by kernel_rfl) ?_ _;have D7:Hid (Below (z (A (B (B (B s (Q g (n*6+1) Z) (J I f)) (Q g (n*6+1+1) Z) (U Z9)) (Q g (n*6+1+2) Z) (Y Z 0 0)))) (B (B (B s (Q g (n*6+1) Z) (J I f)) (Q g (n*6+1+1) Z) (U Z9)) (Q g (n*6+1+2) Z) (Y Z 0 0)) (B (B (B s (Q g (n*6+1) Z) (J I f)) (Q g (n*6+1+1) Z) (U Z9)) (Q g (n*6+1+2) Z) (Y Z 0 0)).drew):=br.drew;have S7:=ae (TL.1.aa D7 ly);have K7:=ae (K6.to (TL.2.1.to (KS.q (X:=XN) D7 ly TL.1.lt)));have JV:=TL.2.2.1;have JQ:=TL.2.2.2;have O:Hid ((B (B (B s (Q g (n*6+1) Z) (J I f)) (Q g (n*6+1+1) Z) (U Z9)) (Q g (n*6+1+2) Z) (Y Z 0 0)).drew.heap[z (A w)]?=T (N #[J I 0,U ⟨#[]⟩,Y Z 0 0] 60 (0,0))):=by have ZN:=(TL.2.1.ad _ _ _ _ ro (by decide) (by decide) (by decide) λh=>h).k ro;exact ZN
   have mv:Hid ((B (B (B s (Q g (n*6+1) Z) (J I f)) (Q g (n*6+1+1) Z) (U Z9)) (Q g (n*6+1+2) Z) (Y Z 0 0)).drew.heap[rb]?=T (N #[J I f,U Z9,Y Z 0 0] 60 (0,0))):=by have ZN:=(TL.2.1.ad _ _ _ _ ZM (by decide) (by decide) (by decide) λh=>h).k ZM;exact ZN
   have Id:=ae JV;have GS:=ae JQ;clear TL JW JV JQ ro ZM K6 ZP R6 DQ D7;generalize World.drew (World.setCell (World.setCell (World.setCell s _ _) _ _) _ _)=W7 at S7 K7 O mv ⊢;have OS:=ae MO.i;obtain⟨H,-,-,b2,-⟩:=S7.ab.K;obtain⟨Ka,Kb,LU,qr⟩:=af S7.X g rfl;have q4:ZW W7 (Q g (n*6+4) Z)=T m1.sv:=cJ (by have h:=S7.X;rw[GS.i] at h ⊢;exact h) Id 4 (by omega) rfl;have MB:ZX W7 (Q g (n*6+4) Z)=ZA:=by simp[World.frozen?,qr]
   have TD:=ae (S7.upd' GS Id (j:=4) (by omega) (u:=Y (T (Q gx 0 Z)) ln cx) (m':=⟨m1.e,f,Z9,ls,Y (T (Q gx 0 Z)) ln cx,ZA⟩) rfl (λh=>by cases h));have JI:Hid ((B W7 (Q g (n*6+4) Z) (Y (T (Q gx 0 Z)) ln cx)).heap[z (A w)]?=T (N #[J I 0,U ⟨#[]⟩,Y Z 0 0] 60 (0,0))):=(TD.2.1.ad _ _ _ _ O (by decide) (by decide) (by decide) λh=>h).k O;have JK:Hid ((B W7 (Q g (n*6+4) Z) (Y (T (Q gx 0 Z)) ln cx)).heap[rb]?=T (N #[J I f,U Z9,Y Z 0 0] 60 (0,0))):=(TD.2.1.ad _ _ _ _ mv (by decide) (by decide) (by decide) λh=>h).k mv;have Fm:=ae TD.1;have Ki:=ae (K7.to TD.2.1);have Ky:=ae TD.2.2.1;have KQ:=ae TD.2.2.2;clear qr;go_upto_region 35 with fail;clear b2 q4 MB TD S7 K7 O mv Id GS;generalize World.setCell W7 _ _=JN at Fm Ki JI JK ⊢;have MK:=ae (Jc OS Ki);obtain⟨H,-,-,b2,-⟩:=Fm.ab.K;obtain⟨Ka,Kb,LU,qr⟩:=af Fm.X g rfl;have q5:ZW JN (Q g (n*6+5) Z)=T (ZF ZA):=cJ (by have h:=Fm.X;rw[KQ.i] at h ⊢;exact h) Ky 5 (by omega) rfl;have Lr:ZX JN (Q g (n*6+5) Z)=ZA:=by simp[World.frozen?,qr]
   have TD:=ae (Fm.upd' KQ Ky (j:=5) (by omega) (u:=ZF ZH) (m':=⟨m1.e,f,Z9,ls,Y (T (Q gx 0 Z)) ln cx,ZH⟩) rfl (λ_=>(by rw[<-Mb.i];exact MK)));have Z8:Hid ((B JN (Q g (n*6+5) Z) (ZF ZH)).heap[z (A w)]?=T (N #[J I 0,U ⟨#[]⟩,Y Z 0 0] 60 (0,0))):=(TD.2.1.ad _ _ _ _ JI (by decide) (by decide) (by decide) λh=>h).k JI;have ZL:Hid ((B JN (Q g (n*6+5) Z) (ZF ZH)).heap[rb]?=T (N #[J I f,U Z9,Y Z 0 0] 60 (0,0))):=(TD.2.1.ad _ _ _ _ JK (by decide) (by decide) (by decide) λh=>h).k JK;have S8:=ae TD.1;have K8:=ae (Ki.to TD.2.1);clear qr;go_upto_region 36 with fail;clear b2 q5 Lr TD Fm Ki JI JK;generalize World.setCell JN _ _=ZR at S8 K8 Z8 ZL ⊢;obtain⟨ao,co,rfl⟩:=jZ S8.ror;obtain⟨q,hq⟩:∃q,q=ZU ZT:=⟨_,rfl⟩
   have HQ:=ae hq;rw[<-hq] at LZ;clear hq;obtain⟨H,-,-,-,b3,-⟩:=S8.ab.K;rw[<-HQ.i] at b3;have M:=ae ((BS ZR).alloc ly (N #[U nm] 9));have S9:=ae (S8.aa M ly);have RO:Hid ((ZV ZR (N #[U nm] 9)).ownsRow (z (A w0)) 9 1 (Y ao q co) q (bO (ZT.map (·.e)))):=by have h:=S9.ror;rw[<-HQ.i] at h;exact h
   have JY:z (A w0)<=z (A (ZV ZR (N #[U nm] 9))):=S9.lt;have HG:Hid (∀ZS:E,(ZV ZR (N #[U nm] 9)).grownBy ZS (Value.slice ao q co).ownBlock->ZS.heap[hb]?=(ZV ZR (N #[U nm] 9)).heap[hb]?/\ZS.heap[z (A w)]?=(ZV ZR (N #[U nm] 9)).heap[z (A w)]?/\ZS.heap[rb]?=(ZV ZR (N #[U nm] 9)).heap[rb]?):=λZS hg=>by
    have aq:∀(i:Nat) (cs:Array ZB) (t:ZK) (fz:Nat × Nat),(ZV ZR (N #[U nm] 9)).heap[i]?=T (Obj.cells cs t fz)->t≠9->ZS.heap[i]?=(ZV ZR (N #[U nm] 9)).heap[i]?:=λi cs t fz hi ht=>hg.p i (ah hi) λe=>by obtain⟨_,_,J7,hc⟩:=af RO i e.c;exact ht (ar hi hc)
    exact⟨aq _ _ _ _ S9.ab (by decide),aq _ _ _ _ ((M.p _ (ah Z8)).k Z8) (by decide),aq _ _ _ _ ((M.p _ (ah ZL)).k ZL) (by decide)⟩
   have JL:Hid ((ZV ZR (N #[U nm] 9)).heap[z (A w)]?=T (N #[J I 0,U ⟨#[]⟩,Y Z 0 0] 60 (0,0))):=(M.p _ (ah Z8)).k Z8;have Lf:Hid ((ZV ZR (N #[U nm] 9)).heap[rb]?=T (N #[J I f,U Z9,Y Z 0 0] 60 (0,0))):=(M.p _ (ah ZL)).k ZL;have hbw:¬ hb=z (A w):=λe=>by have h:=S8.ab;unfold ShBox at h;rw[e] at h;exact absurd (ar h Z8) (by decide)
   have Fd:¬ (z (A w))=hb:=λe=>hbw e.c;have Kw:¬ hb=rb:=λe=>by have h:=S8.ab;unfold ShBox at h;rw[e] at h;exact absurd (ar h ZL) (by decide)
   have Mg:¬ rb=hb:=λe=>Kw e.c
   go_wp2_with (first
    |(at_builtin;refine cj _ rfl (.tmp 235) (.tmp 237) 43 rfl (z (A w0)) 9 i1 (U ⟨#[]⟩) 1 16 NH Kz Lm Kl Kk rfl (by decide) (Y ao q co) q (bO (ZT.map (·.e))) (by simp[Act.eval]) RO.i (Q (z (A ZR)) 0 Z) 1 1 [U nm] (by simp[Act.eval]) rfl (pO ZR _ _) (by simp[Value.oneCell']) (by unfold maxLen;omega) (by omega) JY ?_;intro v9 w9 G o la;have O9:=ae G;have G9:=ae o;have Lo:=ae la;have n8:=ae (HG w9 o);obtain⟨g9,c9,Na,rfl,KP⟩:=G.2.resolve_left (λh=>by omega);clear KP G o la;obtain⟨Mk,-,-,-,f3,-,-,-,-,-,ff⟩:=(ShBox.ad S9.ab n8.1).K;have MQ:=ff 3;obtain⟨rl,r0,r1,r2,rf⟩:=bR (n8.2.1.k JL);have Lg:=rf 0;have Lq:=rf 1;have La:=rf 2;obtain⟨pl,p0,p1,p2,pf⟩:=bR (n8.2.2.k Lf);clear ff rf pf)
    |fail)
   have JS:=ae (S9.ord (x:=⟨nm,3,f,Z9,tg,ls⟩) (w':=w9) (v:=Y (T (Q g9 0 Z)) (q+1) c9) (by rw[<-HQ.i];exact G9) (by rw[<-HQ.i];exact O9) (by rw[<-HQ.i];exact Lo));refine bp (v:=ZJ #[J I f,U Z9,Y Z 0 0]) (by simp[results,TM,go_sem,r0,r1,r2]) rfl ?_;have JP:=(qh w9 (Q hb 3 Z) (Y (T (Q g9 0 Z)) (q+1) c9) (z (A w)) Fd).k (n8.2.1.k JL);rw[Me.i];refine⟨L1.set n ⟨m1.e,f,Z9,ls,Y (T (Q gx 0 Z)) ln cx,ZH⟩,Y (T (Q g 0 Z)) ZQ JT,Y (T (Q g9 0 Z)) (q+1) c9,Y (T (Q gp 0 Z)) j ZO,rfl,?_,yE Mi ex KU KU rfl rfl rfl rfl rfl Md HI,X8.set ex rfl (λk e=>by cases e;exact MV),?_⟩;{have x0:=JS.1;rw[V5,V5] at x0;replace x0:=x0.ag JP ⟨by decide,by decide,by decide,by decide⟩ D 0 (J I f);have y0:=aw JP (j:=0) (J I f);have x1:=x0.ag y0 ⟨by decide,by decide,by decide,by decide⟩ D 1 (U Z9);exact x1.ag (aw y0 (j:=1) (U Z9)) ⟨by decide,by decide,by decide,by decide⟩ D 2 (Y Z 0 0)};{have k0:=((KW.to K8).to (KS.q (X:=XN) M ly S8.lt)).to JS.2;exact((k0.fresh ly D 0 _).fresh ly D 1 _).fresh ly D 2 _}
  focus
   obtain⟨a,k,sv,rfl,⟨s0,s1,MN,Mo,MX,JG,JH⟩,n9⟩:=JJ
  rotate_left;focus
   obtain⟨sv,rfl,⟨s0,s1,MN,Mo,MX,JG,JH⟩,n9⟩:=JJ
  all_goals
   unfold jl;first|unfold jx|unfold jy
   dsimp only;go_upto_region 30 with fail;generalize hW:World.alloc w8 _=W9;obtain⟨M,-,-⟩:=nb1 hW;have K8:=ae ((K7.to n9).to (KS.q (X:=XN) M ly (nX D (K7.to n9).aa.size)));have KT:=ae (ShBox.ad JG (M.p _ (ah JG)));have LN:=ae (J_ JH M ly);have Z8:Hid (W9.heap[z (A w)]?=T (N #[J I 0,U ⟨#[]⟩,Y Z 0 0] 60 (0,0))):=by have ZN:=(n9.ad _ _ _ _ O (by decide) (by decide) (by decide) λh=>h).k O;exact(M.p _ (ah ZN)).k ZN
   clear n9 JG JH M hW;obtain⟨H,-,-,-,-,-,b5,b6,b7,b8,-⟩:=KT.K;have hbw:¬ hb=z (A w):=λe=>by have h:=KT.i;unfold ShBox at h;rw[e] at h;exact absurd (ar h Z8) (by decide)
   have Fd:¬ (z (A w))=hb:=λe=>hbw e.c;obtain⟨rl,r0,r1,r2,rf⟩:=bR Z8;have Lg:=rf 0;have Lq:=rf 1;have La:=rf 2;clear rf;first|simp only[jx] at b5 b6 b7|simp only[jy] at b5 b6 b7
   go_wp2_with fail;have Kt:=Jb LN.i Z8.i (by decide);first|refine bp (v:=ZJ #[J I 6,U ⟨#[]⟩,Y a (ZU c) k]) (by simp[results,TM,go_sem,r0,r1,r2]) rfl ⟨a,k,rfl,?_⟩|refine bp (v:=ZJ #[J I 7,U d,Y Z 0 0]) (by simp[results,TM,go_sem,r0,r1,r2]) rfl ⟨rfl,?_⟩
   refine⟨⟨_,_,_,_,_,(qh _ _ _ _ hbw).k ((qh _ _ _ _ hbw).k ((qh _ _ _ _ hbw).k KT)),?_⟩,?_⟩
   ·exact aB (aB (aB LN Kt _ _) Kt _ _) Kt _ _
   ·exact((K8.fresh ly D 0 _).fresh ly D 1 _).fresh ly D 2 _
 ·have Lt:j=60:=J5;subst Lt;have hbw:¬ hb=z (A w):=λe=>by have h:=S5.ab;unfold ShBox at h;rw[e] at h;exact absurd (ar h sm) (by decide)
  have Fd:¬ (z (A w))=hb:=λe=>hbw e.c;obtain⟨rl,r0,r1,r2,rf⟩:=bR sm;have Lg:=rf 0;have Lq:=rf 1;have La:=rf 2;clear rf;go_wp2_with fail;refine bp (v:=ZJ #[J I 7,U nm,Y Z 0 0]) (by simp[results,TM,go_sem,r0,r1,r2]) rfl ?_;have LJ:=aw S5.ab (j:=8) (ZF ZH);have LA:=aw LJ (j:=5) (J I 7);have Lx:=aw LA (j:=6) (U nm);have MU:=aw Lx (j:=7) (Y Z 0 0);have Kg:z (A w0)<=hb:=S5.hbB;have k8:=(((K5.to (KS.setCell (X:=XN) _ Kg (.inr λcs t fz hc=>.inr (.inr (ar hc S5.ab))) (ZF ZH) (j:=8))).to (KS.setCell (X:=XN) _ Kg (.inr λcs t fz hc=>.inr (.inr (ar hc LJ))) (J I 7) (j:=5))).to (KS.setCell (X:=XN) _ Kg (.inr λcs t fz hc=>.inr (.inr (ar hc LA))) (U nm) (j:=6))).to (KS.setCell (X:=XN) _ Kg (.inr λcs t fz hc=>.inr (.inr (ar hc Lx))) (Y Z 0 0) (j:=7));refine⟨rfl,⟨_,_,_,_,_,(qh _ _ _ _ hbw).k ((qh _ _ _ _ hbw).k ((qh _ _ _ _ hbw).k MU)),⟨rfl,.inl ⟨rfl,rfl⟩⟩⟩,?_⟩;exact((k8.fresh ly D 0 _).fresh ly D 1 _).fresh ly D 2 _
end
section
variable {w0:E}{S:x_}{a0 a1:O_}{c0 c1 hb:Nat}
def ws{q_:List F_}{jh:List zt}(h:fM L q_ jh)(g:∀m∈L,m.e≠nm)(i:aS jh nm=Z)(h1:atL q_ nm=Z)(b:m'.e=nm)(o:m'.done=ZH)(p:x.e=nm)(q:m'.M=(dt x).M)(l:m'.H=(dt x).H)(r:m'.V=x.D)(s:m'.sv=Y Z 0 0)(n:Nat):fM ((L++[gG nm]).set (ZU L) m') q_ (jh++[x])/\LExt n L ((L++[gG nm]).set (ZU L) m'):=by
 have f:(L++[gG nm])[ZU L]?=T (gG nm):=by rw[KK ly,UV];rfl
 refine⟨yE (tj h g (m:=gG nm) rfl rfl) f rfl b p o q l r (dI i) h1,(LExt.add n L (m:=gG nm) rfl).set f b λj e=>?_⟩;rw[s] at e;cases e
def Gf (C:pJ w0 S a0 a1):∀n,oe w0 S hb (Y a0 S.n0 c0) (Y a1 S.n1 c1) n:=by
 have s:∀n,(∀m,n=m+1->oe w0 S hb (Y a0 S.n0 c0) (Y a1 S.n1 c1) m)->oe w0 S hb (Y a0 S.n0 c0) (Y a1 S.n1 c1) n:=by
  intro n ZZ q_ jh L md or st w nm ZT h hrel H f u hn;have hmade:ZU jh<=50000:=by unfold fm at f;omega
  have b:ZU L<=100000:=by have:=hrel.len;omega
  rw[jT];unfold dB;cases h0:aS jh nm with
  |some e =>obtain⟨k,m,f1,Z8,Z9,D,ZS⟩:=Ij hrel h0;refine(Gc w nm h b k m f1 Z8 Z9).P ?_;rintro r w'⟨rfl,g,l⟩;exact⟨L,md,or,st,by rw[D,ZS],g,hrel,LExt.refl _ _,l⟩
  |none =>
   cases h1:atL q_ nm with
   |some i =>
    obtain⟨k,m,f1,Z8,Z9,D⟩:=Ik hrel h1;have G:=u nm D;cases h2:atI (nm1 S.f1) S.n1 nm with
    |none=>rw[h2] at G;cases G
    |some tg=>exact xG C w nm h b (by omega) k m f1 Z8 Z9 tg i h2 h1
   |none =>
    obtain⟨q,y⟩:=Dk hrel h0 h1;dsimp only;unfold eW;cases h2:atI (nm0 S.f0) S.n0 nm with
    |some i =>refine(mI.1 C w nm h b (by omega) q (oZ C.ok h2) 0 (S.f0 i).H (.inr ⟨i,h2,rfl,rfl⟩) 1 (S.f0 i).H).P ?_;rintro r w'⟨o,p,rfl,g,l⟩;have j:=ws hrel y h0 h1 (m':=⟨nm,0,(S.f0 i).H,[],Y Z 0 0,ZH⟩) (x:=⟨nm,1,0,(S.f0 i).H,0,[]⟩) rfl rfl rfl rfl rfl rfl rfl (z (A w));exact⟨_,o,p,st,rfl,g,j.1,j.2,l⟩
    |none =>
     cases h3:atI (nm1 S.f1) S.n1 nm with
     |some t =>
      cases n with
      |zero=>exact mI.2 C w nm h b q h1 t h3 _ (.inl ⟨by omega,rfl⟩)
      |succ m=>exact mI.2 C w nm h b q h1 t h3 _ (.inr ⟨m,ZT,ZZ m rfl,hrel,H,f,u,h0,rfl⟩)
     |none =>refine(mI.1 C w nm h b (by omega) q h3 4 nm (.inl ⟨h2,rfl,rfl⟩) 2 ⟨#[]⟩).P ?_;rintro r w'⟨o,p,rfl,g,l⟩;have j:=ws hrel y h0 h1 (m':=⟨nm,4,nm,[],Y Z 0 0,ZH⟩) (x:=⟨nm,2,0,⟨#[]⟩,0,[]⟩) rfl rfl rfl rfl rfl rfl rfl (z (A w));exact⟨_,o,p,st,rfl,g,j.1,j.2,l⟩
 intro n;induction n with
 |zero=>exact s 0 λm e=>by omega
 |succ n ZR=>exact s (n+1) λm e=>by cases e;exact ZR
end
