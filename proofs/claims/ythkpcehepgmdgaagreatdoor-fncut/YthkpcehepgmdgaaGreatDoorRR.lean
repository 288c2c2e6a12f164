import Derived.Test.YthkpcehepgmdgaaGreatDoorRN
import Derived.WalkSmall
set_option maxRecDepth 1000000
set_option maxHeartbeats 16000000
set_option linter.unusedSimpArgs false
open Go renaming Addr.mk->Q,Value.slice->Z,Value.string->U,Value.int->J,Value.bool->ZC,Value.agg->ZH,Obj.cells->N,IntKind.i64->I,World->G,Value->ZD,TypeId->ZI,Ending.returned->ZG,World.heap->h,World.ownsRow->ZY,World.alloc->ZV,World.cell?->ZW,World.frozen?->ZX,World.setCell->ZT,Proofs.Tryz.prog->Pg
open Option renaming none->Y,some->T
open Bool renaming false->ZB,true->ZF
open Array renaming size->A
open List renaming length->ZU
namespace Go.Proofs.YthkpcehepgmdgaaGreatDoor.Vp
open Tryz RowKit
variable {m m':SM}{n g cap b j i size B ZO:Nat}{w:G}{nm:ByteArray}{L:List SM}{e:ZI}{u:ZD}{x:Ent}
theorem uI:∀(L:List SM) (k j:Nat) (m b:SM) (u:ZD),L[k]?=T m->j<6->smV b=(smV m).set j u->(L.flatMap smV).set (k*6+j) u=(L.set k b).flatMap smV
 |[],k,j,m,b,u,Z8,_,_=>by simp at Z8
 |a::L,0,j,m,b,u,Z8,hj,he=>by simp only[Q3,KN] at Z8;subst Z8;simp only[LI,List.set_cons_zero,T8,E4];rw[TN _ _ (by rw[nC];exact hj),he]
 |a::L,k+1,j,m,b,u,Z8,hj,he=>by simp only[Q9] at Z8;simp only[LI,QX];rw[P6 _ _ (by rw[nC];omega),nC,show(k+1)*6+j - 6=k*6+j by omega,uI L k j m b u Z8 hj he]
theorem yS{i:List ZD}(Z8:ZY w b e size (Z (T (Q g 0 Y)) n cap) n i)(u:ZD):(ZT w (Q g j Y) u).ownsRow b e size (Z (T (Q g 0 Y)) n cap) n (i.set j u):=by
 refine⟨by rw[KP];exact Z8.1,?_⟩;rcases Z8.2 with ⟨f,h0⟩|⟨g',cap',l,f,hb,p,h1,h2,m,o⟩
 {simp at f};{simp only[KU,KN,OR] at f;obtain⟨⟨rfl,-⟩,-,rfl⟩:=f;refine .inr ⟨g,cap,l.setIfInBounds j u,rfl,hb,aB p u,h1,h2,by simpa using m,?_⟩;rw[MU,SY,o]}
section
variable {w0 w w':G}{hb:Nat}{s0 s1 md or st:ZD}{making:List ByteArray}{made:List Ent}{L:List SM}
theorem SI.upd{k:Nat}{b:SM}(Z8:SI w0 hb s0 s1 w making made L (Z (T (Q g 0 Y)) (ZU L) cap) or st)(D:L[k]?=T m)(ZQ:j<6)(E:smV b=(smV m).set j u)(ZS:b.done=ZF->w.ownsRow (A (h w0)) 140 3 b.sv (ZU b.V) (er b.V)):SI w0 hb s0 s1 (ZT w (Q g (k*6+j) Y) u) making made (L.set k b) (Z (T (Q g 0 Y)) (L.set k b).length cap) or st/\KS (A (h w0)) XN w (ZT w (Q g (k*6+j) Y) u):=by
 obtain⟨l,hgl,cs,o⟩:=aj Z8.ao g rfl
 have f:∀{size n:Nat} {p:ZI} {s:ZD} {B:List ZD},w.ownsRow (A (h w0)) p size s n B->137≠p->(ZT w (Q g (k*6+j) Y) u).ownsRow (A (h w0)) p size s n B:=λZZ C=>aH ZZ (λe=>by
  obtain⟨_,_,z,i⟩:=aj ZZ g e
  exact C (au o i)) _ _
 have r:(L.set k b).length=ZU L:=KP;refine⟨⟨Z8.az.setCell l u,Z8.hbB,?_,?_,f Z8.ror (by decide),f Z8.rst (by decide),Z8.apart,λx q y=>?_⟩,KS.setCell w l (.inr λz t fz i=>.inr (.inl (au i o))) u⟩
 ·rw[r]
  exact Z8.M.ab (qh _ _ _ _ λe=>by
   have H:hb=g:=e
   exact absurd (au Z8.M (H ▸ o)) (by decide))
 {rw[r,<-uI L k j m b u D ZQ E];exact yS Z8.ao u};{rcases LN q with q|rfl;{exact f (Z8.V x q y) (by decide)};{exact f (ZS y) (by decide)}}
theorem SI.grow{ZM:ZI}{sz m:Nat}{v:ZD}{K l:List ZD}(Z8:SI w0 hb s0 s1 w making made L md or st)(M:ZY w (A (h w0)) ZM sz u n K)(ZS:ZM=9∨ZM=137)(C:w.grownBy w' u.ownBlock)(E:ZY w' (A (h w0)) ZM sz v m l):ShBox w' hb s0 s1 md or st 0 ⟨#[]⟩ (Z Y 0 0) ZB/\(∀{size n:Nat} {q:ZI} {s:ZD} {l:List ZD},ZY w (A (h w0)) q size s n l->(q≠ZM∨∀k,s.ownBlock=T k->u.ownBlock≠T k)->81≠q->(ZT w' (Q hb j Y) v).ownsRow (A (h w0)) q size s n l)/\(ZT w' (Q hb j Y) v).ownsRow (A (h w0)) ZM sz v m l/\KS (A (h w0)) XN w (ZT w' (Q hb j Y) v):=by
 have y:=aj M;have ZZ:81≠ZM:=by rcases ZS with rfl|rfl<;>decide
 have ZQ:KS (A (h w0)) XN w w':=KS.of_grown C Z8.lt λj O=>by obtain⟨h1,_,g,h2⟩:=y j O;exact⟨h1,.inr λg t fz o=>by rw[au o h2];exact ZS.imp id .inl⟩
 have p:∀(i:Nat) (g:Array ZD) (t:ZI) (fz:Nat × Nat),w.heap[i]?=T (Obj.cells g t fz)->t≠ZM->w'.heap[i]?=w.heap[i]?:=λi g t fz hi ZP=>C.block i (ai hi) λe=>by obtain⟨_,_,z,h2⟩:=y i e.symm;exact ZP (au hi h2)
 have b:ShBox w' hb s0 s1 md or st 0 ⟨#[]⟩ (Z Y 0 0) ZB:=Z8.M.ab (p _ _ _ _ Z8.M ZZ);refine⟨b,λ{size n q s l} B f H=>?_,aH E (λe=>?_) _ _,ZQ.to (KS.setCell w' Z8.hbB (.inr λg t fz o=>.inr (.inr (au o b))) v)⟩
 ·have D:=ey (w':=w') B λk x=>by
   obtain⟨_,ZO,g,o⟩:=aj B k x;rcases f with f|f;{exact p _ _ _ _ o f};{exact C.block k ZO λe=>f k x e.symm}
  exact aH D (λe=>by
   obtain⟨_,_,z,r⟩:=aj D hb e
   exact H (au b r)) _ _
 {obtain⟨_,_,z,r⟩:=aj E hb e;exact ZZ (au b r)}
theorem SI.addL{v:ZD}(Z8:SI w0 hb s0 s1 w making made L md or st)(o:w.grownBy w' md.ownBlock)(p:w'.ownsRow (A (h w0)) 137 6 v (ZU L+1) (L.flatMap smV++smV m))(q:m.done=ZB):SI w0 hb s0 s1 (ZT w' (Q hb 2 Y) v) making made (L++[m]) v or st/\KS (A (h w0)) XN w (ZT w' (Q hb 2 Y) v):=by
 obtain⟨i,b,l,n⟩:=Z8.grow (j:=2) Z8.ao (.inr rfl) o p;refine⟨⟨Z8.az.trans n.aa,Z8.hbB,aB i v,(by rw[gB,CV,IH,List.flatMap_singleton];exact l),b Z8.ror (.inl (by decide)) (by decide),b Z8.rst (.inl (by decide)) (by decide),Z8.apart,λx g f=>?_⟩,n⟩;rcases n6.1 g with g|g;{exact b (Z8.V x g f) (.inl (by decide)) (by decide)};{rw[j4.1 g,q] at f;cases f}
theorem SI.ord{v:ZD}(Z8:SI w0 hb s0 s1 w making made L md or st)(p:w.grownBy w' or.ownBlock)(q:w'.ownsRow (A (h w0)) 9 1 v (ZU made+1) (cI (made.map (·.e))++[U x.e]))(l:v.ownBlock=or.ownBlock∨v.ownBlock=T (A (h w))):SI w0 hb s0 s1 (ZT w' (Q hb 3 Y) v) making (made++[x]) L md v st/\KS (A (h w0)) XN w (ZT w' (Q hb 3 Y) v):=by
 obtain⟨g,b,i,n⟩:=Z8.grow (j:=3) Z8.ror (.inl rfl) p q;refine⟨⟨Z8.az.trans n.aa,Z8.hbB,aB g v,b Z8.ao (.inl (by decide)) (by decide),(by rw[gB,CV];simpa[cI] using i),?_,λk f=>?_,λx r m=>b (Z8.V x r m) (.inl (by decide)) (by decide)⟩,n⟩;{exact b Z8.rst (.inr λk o e=>Z8.apart k e o) (by decide)}
 ·intro e;rcases l with a|a;{exact Z8.apart k (by rw[<-a];exact f) e}
  ·rw[a] at f;cases f
   have:=(aj Z8.rst _ e).2.1;omega
theorem SI.push{v:ZD}(Z8:SI w0 hb s0 s1 w making made L md or st)(p:w.grownBy w' st.ownBlock)(q:w'.ownsRow (A (h w0)) 9 1 v (ZU making+1) (cI making++[U nm]))(l:v.ownBlock=st.ownBlock∨v.ownBlock=T (A (h w))):SI w0 hb s0 s1 (ZT w' (Q hb 4 Y) v) (making++[nm]) made L md or v/\KS (A (h w0)) XN w (ZT w' (Q hb 4 Y) v):=by
 obtain⟨g,b,i,n⟩:=Z8.grow (j:=4) Z8.rst (.inl rfl) p q;refine⟨⟨Z8.az.trans n.aa,Z8.hbB,aB g v,b Z8.ao (.inl (by decide)) (by decide),?_,(by rw[gB,CV];simpa[cI] using i),λk f=>?_,λx r m=>b (Z8.V x r m) (.inl (by decide)) (by decide)⟩,n⟩;{exact b Z8.ror (.inr λk o e=>Z8.apart k o e) (by decide)}
 ·intro e;rcases l with a|a;{exact Z8.apart k f (by rw[<-a];exact e)}
  ·rw[a] at e;cases e
   have:=(aj Z8.ror _ f).2.1;omega
theorem SI.pop (Z8:SI w0 hb s0 s1 w (making++[nm]) made L md or (Z (T (Q g 0 Y)) (ZU making+1) cap)):SI w0 hb s0 s1 (ZT w (Q hb 4 Y) (Z (T (Q g 0 Y)) (ZU making) cap)) making made L md or (Z (T (Q g 0 Y)) (ZU making) cap)/\KS (A (h w0)) XN w (ZT w (Q hb 4 Y) (Z (T (Q g 0 Y)) (ZU making) cap)):=by
 have b:∀{size n:Nat} {i:ZI} {j:ZD} {o:List ZD},w.ownsRow (A (h w0)) i size j n o->81≠i->(ZT w (Q hb 4 Y) (Z (T (Q g 0 Y)) (ZU making) cap)).ownsRow (A (h w0)) i size j n o:=λf m=>aH f (λe=>by
  obtain⟨_,_,cs2,l⟩:=aj f hb e
  exact m (au Z8.M l)) _ _
 have hst:=Z8.rst;rw[gB,CV] at hst;refine⟨⟨Z8.az.setCell Z8.hbB _,Z8.hbB,aB Z8.M _,b Z8.ao (by decide),b Z8.ror (by decide),b (ownsRow_pop (last:=[U nm]) (by simp[cI]) (by simpa[cI] using hst)) (by decide),Z8.apart,λx r q=>b (Z8.V x r q) (by decide)⟩,KS.setCell w Z8.hbB (.inr λcs t fz p=>.inr (.inr (au p Z8.M))) _⟩
end
theorem xd (Z8:L.Pairwise λm b=>m.e≠b.e){b:SM}(hi:L[i]?=T m)(r:L[j]?=T b)(e:m.e=b.e):i=j:=by
 rw[LD] at Z8;obtain⟨n,l⟩:=j2.1 hi;obtain⟨f,g⟩:=j2.1 r;rcases RH i j with q|p|o;{exact absurd (by rw[l,g];exact e) (Z8 i j n f q)};{exact p};{exact absurd (by rw[l,g];exact e.symm) (Z8 j i f n o)}
theorem qK (hn:L.Pairwise λm i=>m.e≠i.e)(g:m∈L)(e:m.e=nm):∃k,fI L nm=T k/\L[k]?=T m:=by
 obtain⟨k,b⟩:=ME g;refine⟨k,uD b (by rw[e];simp) λj l hj f=>?_,b⟩;cases Z8:(l.e.toList == nm.toList) with
 |false=>rfl
 |true =>have:=xd hn f b (by rw[bytes_beq Z8,e]);omega
section
variable {L:List SM}{making:List ByteArray}{made:List Ent}{nm:ByteArray}
theorem Fx (Z8:fx L making made){e:Ent}(b:bc made nm=T e):∃k m,fI L nm=T k/\L[k]?=T m/\m.done=ZF/\m.E=(dK e).E/\m.B=(dK e).B:=by obtain⟨h1,h2⟩:=fK b;obtain⟨m,f,j,o,g,n,_⟩:=Z8.got e h1;obtain⟨k,i,l⟩:=qK Z8.nod f (j.trans h2);exact⟨k,m,i,l,o,g,n⟩
theorem Fy (Z8:fx L making made)(hi:atL making nm=T i):∃k m,fI L nm=T k/\L[k]?=T m/\m.done=ZB/\nm∈making:=by
 have f:=hi;unfold atL at f;obtain⟨g,h1,_⟩:=NY.1 f;have b:nm∈making:=by rw[<-bytes_beq h1];exact gz g
 obtain⟨m,j,n,p⟩:=Z8.mkg nm b;obtain⟨k,l,o⟩:=qK Z8.nod j n;exact⟨k,m,l,o,p,b⟩
theorem AH (Z8:fx L making made)(l:bc made nm=Y)(h1:atL making nm=Y):fI L nm=Y/\∀m∈L,m.e≠nm:=by
 have b:∀m∈L,m.e≠nm:=λm f e=>by
  rcases Z8.all m f with ⟨x,g,i⟩|h2;{exact fi l x g (i.trans e)};{exact ju h1 _ h2 e}
 refine⟨wY λj m hj f=>?_,b⟩;cases h2:(m.e.toList == nm.toList) with
 |false=>rfl
 |true=>exact absurd (bytes_beq h2) (b m (IN f))
theorem rL (Z8:fx L making made)(j:∀m∈L,m.e≠nm)(i:m.e=nm)(n:m.done=ZB):fx (L++[m]) (making++[nm]) made:=by
 refine⟨?_,by simp[Z8.len];omega,λx o=>?_,λt g=>?_,λy f=>?_⟩;{rw[MN];exact⟨Z8.nod,List.pairwise_singleton _ _,λa l b hb=>by rw[j4.1 hb,i];exact j a l⟩};{obtain⟨y,f,r⟩:=Z8.got x o;exact⟨y,KM _ f,r⟩};{rcases n6.1 g with g|g;{obtain⟨y,f,r⟩:=Z8.mkg t g;exact⟨y,KM _ f,r⟩};{exact⟨m,LM _ (j4.2 rfl),by rw[i,j4.1 g],n⟩}};{rcases n6.1 f with f|f;{exact(Z8.all y f).imp id λZ8=>KM _ Z8};{rw[j4.1 f,i];exact .inr (LM _ (j4.2 rfl))}}
theorem xe{g:List Ent}{k:Nat}{b:SM}(Z8:fx L (making++[nm]) g)(u:L[k]?=T m)(D:m.e=nm)(p:b.e=nm)(ZZ:x.e=nm)(P:b.done=ZF)(K:b.E=(dK x).E)(O:b.B=(dK x).B)(ZO:b.V=x.D)(M:∀y∈g,y.e≠nm)(h1:atL making nm=Y):fx (L.set k b) making (g++[x]):=by
 have ZQ:=(j2.1 u).1;have E:=(j2.1 u).2;have n:∀y∈L,y.e≠nm->y∈L.set k b:=λy f H=>by
  obtain⟨i,hi⟩:=ME f;refine IN (i:=i) ?_;rw[NL λe=>?_];{exact hi}
  ·subst e;rw[u] at hi;cases hi
   exact H D
 have B:b∈L.set k b:=IN (L8 ZQ);refine⟨?_,by rw[KP,Z8.len];simp;omega,λy f=>?_,λt s=>?_,λy f=>?_⟩;{have l:=Z8.nod;rw[LD] at l ⊢;have q:∀(i:Nat) (hi:i<(L.set k b).length),(L.set k b)[i].e=(L[i]'(by simpa using hi)).e:=λi hi=>(by rw[List.getElem_set];split;{rename_i e;subst e;rw[E,D,p]};{rfl});intro i j hi ZP C;rw[q i hi,q j ZP];exact l i j (by simpa using hi) (by simpa using ZP) C};{rcases n6.1 f with f|f;{obtain⟨z,hz,o,r⟩:=Z8.got y f;exact⟨z,n z hz (by rw[o];exact M y f),o,r⟩};{rw[j4.1 f];exact⟨b,B,by rw[p,ZZ],P,K,O,ZO⟩}};{obtain⟨z,hz,o,r⟩:=Z8.mkg t (KM _ s);exact⟨z,n z hz (by rw[o];exact ju h1 t s),o,r⟩};{rcases LN f with ZS|rfl;{rcases Z8.all y ZS with ⟨z,hz,e⟩|h2;{exact .inl ⟨z,KM _ hz,e⟩};{rcases n6.1 h2 with h2|h2;{exact .inr h2};{exact .inl ⟨x,LM _ (j4.2 rfl),by rw[ZZ,j4.1 h2]⟩}}};{exact .inl ⟨x,LM _ (j4.2 rfl),by rw[ZZ,p]⟩}}
end
theorem nZ{S:Spc}(Z8:SpcOk S)(hi:atI (nm0 S.f0) S.n0 nm=T i):atI (nm1 S.f1) S.n1 nm=Y:=by
 have b:=Z8.chk;unfold bm at b;split at b;· omega
 split at b;· omega
 split at b;· omega
 split at b;· omega
 split at b;· omega
 split at b;· omega
 rename_i f;obtain⟨h1,h2⟩:=bN hi;have:=hZ (Bool.eq_false_iff.2 f) h1;rw[h2] at this;exact uC this
open Ca
section
variable {w0:G}{S:Spc}{a0 a1:Option Addr}{c0 c1 hb:Nat}{md or st:ZD}{making:List ByteArray}{made:List Ent}{L:List SM}
theorem Dw (w:G)(nm:ByteArray)(Z8:SI w0 hb (Z a0 S.n0 c0) (Z a1 S.n1 c1) w making made L md or st)(x:ZU L<=100000)(k:Nat)(m:SM)(h1:fI L nm=T k)(h2:L[k]?=T m)(D:m.done=ZF):Calls Pg 75 #[.pointer (T (Q hb 0 Y)),U nm] w λe w'=>e=ZG (ZH #[J I m.E,U m.B,Z Y 0 0])/\SI w0 hb (Z a0 S.n0 c0) (Z a1 S.n1 c1) w' making made L md or st/\KS (A (h w0)) XN w w':=by
 obtain⟨o,l⟩:∃W:G,ZV w (N #[J I 0,U ⟨#[]⟩,Z Y 0 0] 47)=W:=⟨_,rfl⟩
 obtain⟨t,kr,-⟩:=nb1 l;have p:=ae l;clear l;have f:=ae (Z8.aa t ly);have b:A (h w0)<=A (h w):=Z8.lt;have hkl:=(j2.1 h2).1;obtain⟨g,cap,cur,rfl,-⟩:=Z8.ao.2.resolve_left (λZ8=>by omega);have C:ee (fI L nm)=(k:Int):=by rw[h1];rfl
 have r:=ae h2;obtain⟨n,hn⟩:∃n,n=ZU L:=⟨_,rfl⟩
 have B:=ae hn;have hkn:k<n:=by omega
 clear Z8 h1 h2 hn;go_enter func75,ntmps75;go_wp2_with fail;rw[p.out];clear p;refine(oQ o nm f x).mono ?_;rintro e w1 ⟨rfl,s⟩;rw[s];clear s;rw[C];obtain⟨hbl,-,-,z,-⟩:=f.M.R;have d1:ZW o (Q g (k*6+1) Y)=T (J I m.E):=cB f.ao r 1 (by omega) rfl;have d2:ZW o (Q g (k*6+2) Y)=T (U m.B):=cB f.ao r 2 (by omega) rfl;have d3:ZW o (Q g (k*6+3) Y)=T (Z Y 0 0):=cB f.ao r 3 (by omega) rfl;have d5:ZW o (Q g (k*6+5) Y)=T (ZC ZF):=by have:=cB f.ao r.out 5 (by omega) (u:=ZC m.done) rfl;rw[D] at this;exact this
 rw[<-B.out] at z;obtain⟨rl,r0,r1,ZS,q⟩:=bI kr;have rf0:=q 0;have rf1:=q 1;have rf2:=q 2;have hI0:(0:Int)<=(k:Int):=by omega
 have hI1:(k:Int)<(n:Int):=by omega
 clear q;go_wp2_with fail;refine bp (v:=ZH #[J I m.E,U m.B,Z Y 0 0]) (by simp[results,PC,go_sem,r0,r1,ZS]) rfl ⟨rfl,?_,?_⟩;{have E:=f.ak kr.out ⟨by decide,by decide,by decide,by decide⟩ b 0 (J I m.E);have y:=aB kr.out (j:=0) (J I m.E);have ZZ:=E.ak y ⟨by decide,by decide,by decide,by decide⟩ b 1 (U m.B);exact ZZ.ak (aB y (j:=1) (U m.B)) ⟨by decide,by decide,by decide,by decide⟩ b 2 (Z Y 0 0)}
 ·refine((((KS.q (X:=XN) t ly b).trans (KS.setCell (X:=λi=>i=A (h w)) _ b (Or.inl rfl) _) ?_).trans (KS.setCell (X:=λi=>i=A (h w)) _ b (Or.inl rfl) _) ?_).trans (KS.setCell (X:=λi=>i=A (h w)) _ b (Or.inl rfl) _) ?_);all_goals
   intro i hi Z8;have e2:i=A (h w):=Z8;omega
theorem uJ{M:List ByteArray}(Z8:ZY w b 9 1 (Z (T (Q g 0 Y)) n cap) n (cI M)){t:ByteArray}(f:M[i]?=T t):ZW w (Q g i Y)=T (U t):=by have h1:=Z8.cells (g:=g) rfl i (U t) (by rw[cI,HU,f];rfl);rw[addr_add,E4] at h1;exact h1
theorem vS (C:oR w0 S a0 a1)(w:G)(nm:ByteArray)(Z8:SI w0 hb (Z a0 S.n0 c0) (Z a1 S.n1 c1) w making made L md or st)(Hr:ZU L<=100000)(Hk:ZU making<=60)(k:Nat)(m:SM)(h1:fI L nm=T k)(h2:L[k]?=T m)(hd:m.done=ZB)(tg ZZ:Nat)(ht:atI (nm1 S.f1) S.n1 nm=T tg)(hi:atL making nm=T ZZ):Calls Pg 75 #[.pointer (T (Q hb 0 Y)),U nm] w λe w'=>lO w0 hb (Z a0 S.n0 c0) (Z a1 S.n1 c1) making L w e w' (.inr (.inl (making.drop ZZ))):=by
 obtain⟨i1,Ho,Ib,Hy,Ic⟩:=kG oS;obtain⟨W0,ZO⟩:∃W:G,ZV w (N #[J I 0,U ⟨#[]⟩,Z Y 0 0] 47)=W:=⟨_,rfl⟩
 obtain⟨A0,kr,-⟩:=nb1 ZO;have aq:=ae ZO;clear ZO;have S0:=ae (Z8.aa A0 ly);have o:A (h w0)<=A (h w):=Z8.lt;have hkl:=(j2.1 h2).1;obtain⟨g,cap,cur,rfl,-⟩:=Z8.ao.2.resolve_left (λZ8=>by omega);have e1:ee (fI L nm)=(k:Int):=by rw[h1];rfl
 have P:ee (atI (nm1 S.f1) S.n1 nm)=(tg:Int):=by rw[ht];rfl
 have Hm:ZZ<ZU making/\(∃x,making[ZZ]?=T x/\(x.toList == nm.toList)=ZF)/\∀(j:Nat) (y:ByteArray),j<ZZ->making[j]?=T y->(y.toList == nm.toList)=ZB:=by unfold atL at hi;obtain⟨q1,q2,q3⟩:=NY.1 hi;refine⟨q1,⟨_,gq q1,q2⟩,λj y hj ZK=>?_⟩;have:=q3 j hj;rw[Bool.not_eq_true] at this;rw[(j2.1 ZK).2] at this;exact this
 obtain⟨Fn,⟨xi,DQ,th⟩,n7⟩:=Hm;obtain⟨V,l,cus,rfl,qr⟩:=Z8.rst.2.resolve_left (λZ8=>by omega);have Hx:ZU making<=l:=qr.2.2.1;have H2:=ae h2;have Id:=ae DQ;have Hp:=ae n7;have Ht:=ae th;obtain⟨n,hn⟩:∃n,n=ZU L:=⟨_,rfl⟩
 have HN:=ae hn;have hkn:k<n:=by omega
 obtain⟨f,bt⟩:∃f,f=ZU making:=⟨_,rfl⟩
 have D:=ae bt;have CC:=ae C;have hsm:=C.ok.bh;rw[<-bt] at Fn Hk Hx;clear Z8 h1 h2 hn C ht hi qr bt DQ th n7;go_enter func75,ntmps75;go_wp2_with fail;rw[aq.out];clear aq;refine(oQ W0 nm S0 Hr).mono ?_;rintro e w1 ⟨rfl,DE⟩;rw[DE];clear DE;rw[e1];obtain⟨R,b0,b1,b2,-⟩:=S0.M.R;have d5:ZW W0 (Q g (k*6+5) Y)=T (ZC ZB):=by have:=cB S0.ao H2.out 5 (by omega) (u:=ZC m.done) rfl;rw[hd] at this;exact this
 rw[<-HN.out] at b2;have hI0:(0:Int)<=(k:Int):=by omega
 have hI1:(k:Int)<(n:Int):=by omega
 go_wp2_with fail;refine(iu a0 S.n0 c0 a1 S.n1 c1 S.f0 nm W0 (by omega) (CC.src.aa S0.az ly)).mono ?_;rintro e w1 ⟨rfl,z⟩;have S1:=ae (S0.aa z ly);have n9:Hid (w1.heap[A (h w)]?=_):=(z.block _ (ai kr)).trans kr;have K1:=ae (A0.trans (z.mono A0.size));clear z b0 b1 b2 R d5;obtain⟨R,b0,b1,-⟩:=S1.M.R;go_wp2_with fail;refine(iv a0 S.n0 c0 a1 S.n1 c1 S.f1 nm w1 (by omega) (CC.w.aa S1.az ly)).mono ?_;rintro e ZP ⟨he,z⟩;rw[P] at he;subst he;have s:=ae (S1.aa z ly);have Bk:Hid (ZP.heap[A (h w)]?=_):=(z.block _ (ai n9)).trans n9;have K2:=ae (K1.trans (z.mono K1.size));clear z b0 b1 R;obtain⟨R,-,-,-,-,b4,b5,b6,b7,b8,ZJ⟩:=s.M.R;have Hw:=ZJ 5;have Hl:=ZJ 6;have Ie:=ZJ 7;have Hq:=ZJ 8;rw[<-D.out] at b4;clear ZJ;have hT0:(0:Int)<=(tg:Int):=by omega
 go_wp2_with fail;go_loop [9] (λi=>∃j:Nat,j<=ZZ/\i=J I j) (λi=>ZZ - (intOf i).toNat);case atStart=>exact⟨0,by omega,rfl⟩
 case round =>
  obtain⟨j,hj,rfl⟩:=hrel;obtain⟨y,ZK⟩:∃y,making[j]?=T y:=⟨_,gq (by have:=D.out;omega)⟩
  have dj:ZW ZP (Q V j Y)=T (U y):=uJ s.rst ZK;have hjm:(j:Int)<(f:Int):=by omega
  have HY:=ae ZK;clear ZK;by_cases Hv:j<ZZ;{have Hz:=Hp.out j y Hv HY.out;have HNE:=ae Hz;go_wp2;exact⟨⟨j+1,by omega,by go_num⟩,by simp[intOf];omega⟩}
  ·obtain rfl:j=ZZ:=by omega
   have hye:(y.toList == nm.toList)=ZF:=by
    have:=HY.out;rw[Id.out] at this;cases this
    exact Ht
   go_upto_region 22 with fail;clear dj b4 b5 b6 b7 b8 Hw Hl Ie Hq;have DS:=ae (aB s.M (j:=8) (ZC ZF))
   have R3:Hid ((ZT ZP (Q hb 8 Y) (ZC ZF)).ownsRow (A (h w0)) 9 1 (Z (T (Q V 0 Y)) (ZU making) l) (ZU making) (cI making)):=aH s.rst (λe=>by
    obtain⟨_,_,Fd,E⟩:=aj s.rst hb e
    exact absurd (au s.M E) (by decide)) _ _
   have hbw:hb≠A (h w):=λe=>absurd (au s.M (e ▸ Bk.out)) (by decide);have ZM:Hid ((ZT ZP (Q hb 8 Y) (ZC ZF)).heap[A (h w)]?=_):=(qh _ _ _ _ (Ne.symm hbw)).trans Bk;have ZL:Hid (KS (A (h w0)) XN w (ZT ZP (Q hb 8 Y) (ZC ZF))):=(KS.q (X:=XN) K2 ly o).to (KS.setCell ZP s.hbB (.inr λl t fz ZS=>.inr (.inr (au ZS s.M))) _);have n8:A (h w0)<=hb:=s.hbB;generalize World.setCell ZP _ _=b at DS R3 ZM ZL ⊢;have ZQ:Hid (ShBox b hb (Z a0 S.n0 c0) (Z a1 S.n1 c1) (Z (T (Q g 0 Y)) (ZU L) cap) or (Z (T (Q V 0 Y)) (ZU making) l) 0 ⟨#[]⟩ (Z Y 0 0) ZF):=DS.out;obtain⟨Hj,-,-,-,-,b4,-⟩:=ZQ.R;rw[<-D.out] at b4;have LO:=ae (nE b 9 1);have A4:=ae ((q9 b).alloc ly (N #[] 9));have H6:Hid (∀q u,(cI (making.drop j))[q]?=T u->(ZV b (N #[] 9)).cell? (((Q V j Y):Addr).add q)=T u):=λq u hq=>by have h1:=(own_below R3 A4 ly).cells (g:=V) rfl (j+q) u (by rw[<-hq,cI,cI,HU,HU,List.getElem?_drop]);rw[addr_add,E4] at h1;rw[addr_add];exact h1
   have hjc:¬ l=j:=by omega
   have hI2:(0:Int)<=(j:Int):=by omega
   have hI3:(j:Int)<=(f:Int):=by omega
   have hI4:(f:Int)<=(l:Int):=by omega
   have ur:(cI (making.drop j)).length=(f - j)*1:=by rw[cI,LR,MH,<-D.out,Nat.mul_one]
   have H7:=ae ur;have ld:∀u∈cI (making.drop j),u.oneCell'=ZF:=λu hu=>by rw[cI,LA] at hu;obtain⟨t,_,rfl⟩:=hu;rfl
   have Fm:=ae ld;clear ur ld;have HG:Hid (∀r:G,(ZV b (N #[] 9)).grownBy r (T (A (h b)))->r.heap[hb]?=b.heap[hb]?/\r.heap[A (h w)]?=b.heap[A (h w)]?):=λr hg=>by
    have hz:A (h (ZV b (N #[] 9)))=A (h b)+1:=by simp
    have H9:=ai ZM.out;exact⟨(hg.block hb (by omega) (λe=>by have P:hb=A (h b):=GD e;omega)).trans (A4.block hb Hj),(hg.block (A (h w)) (by omega) (λe=>by have P:A (h w)=A (h b):=GD e;omega)).trans (A4.block _ H9)⟩
   have ex:A (h b)<=A (h (ZV b (N #[] 9))):=by simp
   have GS:(0+(f - j))*16<=140737488355328:=by omega
   have Hi:0+(f - j)<=maxLen:=by unfold maxLen;omega
   have Fk:0+(f - j)≠0:=by omega
   go_wp2_with (first
    |(at_builtin;refine bU _ rfl (.tmp 129) (.tmp 135) 45 rfl (A (h b)) 9 i1 (U ⟨#[]⟩) 1 16 LZ Ho Ib Hy Ic rfl (by decide) (Z (T (Q (A (h b)) 0 Y)) 0 0) 0 [] (by simp[Act.eval]) LO.out (Q V j Y) (f - j) (l - j) (cI (making.drop j)) (by simp[Act.eval]) H7.out H6.out Fm.out Hi GS ex ?_;intro v4 r M p Ia;have O4:=ae M;have At:=ae (HG r p).1;have ro:=ae (HG r p).2;have G4:=ae p;obtain⟨O,c4,cu4,rfl,Hn⟩:=M.2.resolve_left (λZ8=>Fk Z8.2);clear Hn M p Ia;obtain⟨hbl4,-,-,-,-,-,f5,f6,f7,-,ff⟩:=(ShBox.ab ZQ At).R;have ff5:=ff 5;have ff6:=ff 6;have ff7:=ff 7;obtain⟨rl,r0,r1,r2,rf⟩:=bI (ro.trans ZM);have rf0:=rf 0;have rf1:=rf 1;have rf2:=rf 2;have hbw2:¬ (A (h w))=hb:=(λe=>hbw e.symm);have K:¬ hb=A (h w):=hbw;clear ff rf)
    |fail)
   refine bp (v:=ZH #[J I 6,U ⟨#[]⟩,Z (T (Q O 0 Y)) (f - j) c4]) (by simp[results,PC,go_sem,r0,r1,r2]) rfl ?_;have la:(making.drop j).length=f - j:=by rw[MH,<-D.out]
   have fd:=At.trans ZQ.out;have sm:=aB fd (j:=5) (J I 6);have ph:=aB sm (j:=6) (U ⟨#[]⟩);have Hu:=aB ph (j:=7) (Z (T (Q O 0 Y)) (f - j) c4);have H:(Value.slice (T (Q O 0 Y)) (f - j) c4).ownBlock≠T hb:=λe=>by obtain⟨_,_,Fd,E⟩:=aj O4 hb (by simpa[Value.ownBlock] using e);exact absurd (au fd E) (by decide)
   have ZN:(Value.slice (T (Q O 0 Y)) (f - j) c4).ownBlock≠T (A (h w)):=λe=>by obtain⟨_,_,Fd,E⟩:=aj O4 (A (h w)) (by simpa[Value.ownBlock] using e);exact absurd (au (ro.trans ZM) E) (by decide)
   have o4:ZY r (A (h w0)) 9 1 (Z (T (Q O 0 Y)) (f - j) c4) (f - j) (cI (making.drop j)):=by have h1:=O4.out;rw[E4,J2] at h1;exact aA h1 (AD o ZL.aa.size)
   have k4:KS (A (h w0)) XN w r:=(ZL.to (KS.q (X:=XN) A4 ly (AD o ZL.aa.size))).to (KS.of_grown G4 (AD (AD o ZL.aa.size) ex) λq hq=>by
    have P:q=A (h b):=(GD hq).symm;refine⟨by rw[P];exact AD o ZL.aa.size,.inr λl t fz ZS=>?_⟩;rw[P] at ZS
    exact .inl (au ZS (nD b _)))
   have B:∀(W:G) (l:Array ZD) (t:ZI) (fz:Nat × Nat),W.heap[hb]?=r.heap[hb]?∨(∃c2,W.heap[hb]?=T (N c2 81 (0,0)))->W.heap[hb]?=T (N l t fz)->t=9∨t=137∨t=81:=λW l t fz hW ZS=>by
    rcases hW with hW|⟨c2,hW⟩
    {exact .inr (.inr (au ZS (hW.trans fd)))};{exact .inr (.inr (au ZS hW))}
   refine⟨T (Q O 0 Y),c4,by rw[la];rfl,⟨_,_,_,_,_,(qh _ _ _ _ K).trans ((qh _ _ _ _ K).trans ((qh _ _ _ _ K).trans (by rw[la];exact Hu))),?_⟩,?_⟩;{show World.ownsRow _ _ _ _ _ (making.drop j).length _;rw[la];exact aH (aH (aH (aH (aH (aH o4 H _ _) H _ _) H _ _) ZN _ _) ZN _ _) ZN _ _}
   ·have k7:=((k4.to (KS.setCell (X:=XN) r n8 (.inr λl t fz=>B _ l t fz (.inl rfl)) (J I 6) (j:=5))).to (KS.setCell (X:=XN) _ n8 (.inr λl t fz=>B _ l t fz (.inr ⟨_,sm⟩)) (U ⟨#[]⟩) (j:=6))).to (KS.setCell (X:=XN) _ n8 (.inr λl t fz=>B _ l t fz (.inr ⟨_,ph⟩)) (Z (T (Q O 0 Y)) (f - j) c4) (j:=7));refine((k7.trans (KS.setCell (X:=λi=>i=A (h w)) _ o (Or.inl rfl) _) ?_).trans (KS.setCell (X:=λi=>i=A (h w)) _ o (Or.inl rfl) _) ?_).trans (KS.setCell (X:=λi=>i=A (h w)) _ o (Or.inl rfl) _) ?_;all_goals
     intro i hi Z8;have P:i=A (h w):=Z8;omega
end
def gj (nm:ByteArray):SM:=⟨nm,0,⟨#[]⟩,[],Z Y 0 0,ZB⟩
theorem Dx (w:G)(g n m i f b:ZD)(t:ZI):∀j u,[g,n,m,i,f,b][j]?=T u->(ZV w (N #[g,n,m,i,f,b] t)).cell? (((Q (A (h w)) 0 Y):Addr).add j)=T u:=by
 intro j u Z8;rw[addr_add];have hj:j<6:=by
  rcases MJ j 6 with l|l;{exact l};{rw[LJ (by simp;omega)] at Z8;cases Z8}
 rcases(show j=0∨j=1∨j=2∨j=3∨j=4∨j=5 by omega) with rfl|rfl|rfl|rfl|rfl|rfl;all_goals
  simp at Z8;subst Z8;simp
theorem oV (w:G)(v:ZD)(t:ZI):∀j u,[v][j]?=T u->(ZV w (N #[v] t)).cell? (((Q (A (h w)) 0 Y):Addr).add j)=T u:=by
 intro j u Z8;rw[addr_add];have f:j=0:=by
  rcases MJ j 1 with b|b;{omega};{rw[LJ (by simp;omega)] at Z8;cases Z8}
 subst f;simp at Z8;subst Z8;simp
theorem jA{v:ZD}{f:List ZD}(Z8:ZY w b e size v n f):∃a cap,v=Z a n cap:=by
 obtain⟨_,⟨rfl,rfl⟩|⟨g,cap,cur,rfl,_⟩⟩:=Z8;{exact⟨Y,0,rfl⟩};{exact⟨_,_,rfl⟩}
theorem KS.fresh{W:G}(Z8:KS B XN W w)(hb:A (h W)<=b)(f:B<=A (h W))(j:Nat)(u:ZD):KS B XN W (ZT w (Q b j Y) u) :=
 Z8.trans (KS.setCell (X:=λi=>i=b) w (AD f hb) (Or.inl rfl) u) λi hi g=>by have e2:i=b:=g;omega
section
variable {w0 w:G}{hb:Nat}{s0 s1 or st:ZD}{making:List ByteArray}{made:List Ent}{L:List SM}
theorem SI.upd'{k:Nat}(l:ZU L=ZO)(Z8:SI w0 hb s0 s1 w making made L (Z (T (Q g 0 Y)) ZO cap) or st)(b:L[k]?=T m)(n:j<6)(f:smV m'=(smV m).set j u)(i:m'.done=ZF->w.ownsRow (A (h w0)) 140 3 m'.sv (ZU m'.V) (er m'.V)):SI w0 hb s0 s1 (ZT w (Q g (k*6+j) Y) u) making made (L.set k m') (Z (T (Q g 0 Y)) ZO cap) or st/\KS (A (h w0)) XN w (ZT w (Q g (k*6+j) Y) u)/\(L.set k m')[k]?=T m'/\(L.set k m').length=ZO:=by subst l;have:=Z8.upd b n f i;rw[KP] at this;exact⟨this.1,this.2,L8 (j2.1 b).1,KP⟩
theorem SI.told{k:Nat}(s:ZU L=ZO)(Z8:SI w0 hb s0 s1 w making made L (Z (T (Q g 0 Y)) ZO cap) or st)(o:L[k]?=T m)(t:m.done=ZB)(b:Int)(f:ByteArray):SI w0 hb s0 s1 (ZT (ZT (ZT w (Q g (k*6+1) Y) (J I b)) (Q g (k*6+1+1) Y) (U f)) (Q g (k*6+1+2) Y) (Z Y 0 0)) making made (L.set k ⟨m.e,b,f,m.V,m.sv,ZB⟩) (Z (T (Q g 0 Y)) ZO cap) or st/\KS (A (h w0)) XN w (ZT (ZT (ZT w (Q g (k*6+1) Y) (J I b)) (Q g (k*6+1+1) Y) (U f)) (Q g (k*6+1+2) Y) (Z Y 0 0))/\(L.set k ⟨m.e,b,f,m.V,m.sv,ZB⟩)[k]?=T ⟨m.e,b,f,m.V,m.sv,ZB⟩/\(L.set k ⟨m.e,b,f,m.V,m.sv,ZB⟩).length=ZO:=by obtain⟨a1,r,y,x⟩:=Z8.upd' s o (j:=1) (by omega) (u:=J I b) (m':=⟨m.e,b,m.B,m.V,m.sv,ZB⟩) (by simp[smV,t]) (λZ8=>by cases Z8);obtain⟨B,z,ZZ,q⟩:=a1.upd' x y (j:=2) (by omega) (u:=U f) (m':=⟨m.e,b,f,m.V,m.sv,ZB⟩) rfl (λZ8=>by cases Z8);obtain⟨l,p,n,i⟩:=B.upd' q ZZ (j:=3) (by omega) (m':=⟨m.e,b,f,m.V,m.sv,ZB⟩) (u:=Z Y 0 0) rfl (λZ8=>by cases Z8);rw[RY,RY] at l n i;exact⟨l,(r.to z).to p,n,i⟩
end
theorem GV{z:Int}(h0:0<=z)(h1:z<=1048576):IntKind.i64.wrap z=z:=by rw[nL];omega
theorem Gu{f:Nat}{t:ZI}{v:ZD}{i:List ZD}{l:Array ZD}{fz:Nat × Nat}(Z8:ZY w f e size v n i)(hb:w.heap[b]?=T (N l t fz))(g:e≠t):v.ownBlock≠T b:=λk=>by obtain⟨_,_,cs',j⟩:=aj Z8 b k;exact g (au j hb)
theorem Gv{w':G}{v:ZD}{b:List ZD}(Z8:ZY w B 140 3 v n b)(f:KS B XN w w'):ZY w' B 140 3 v n b:=ey Z8 λk e=>by obtain⟨_,_,cs,g⟩:=aj Z8 k e;exact f.ab _ _ _ _ g (by decide) (by decide) (by decide) λZ8=>Z8
theorem LExt.add (n:Nat)(L:List SM)(Z8:m.done=ZB):LExt n L (L++[m]):=by
 refine⟨λi g b=>⟨g,?_,rfl⟩,λg b f=>?_⟩;{rw[KO (j2.1 b).1];exact b};{rcases n6.1 b with b|b;{exact .inl ⟨g,b,f,rfl⟩};{rw[j4.1 b,Z8] at f;cases f}}
theorem LExt.set{k:Nat}{o:List SM}{f:SM}(Z8:LExt n L o)(q:o[k]?=T m)(u:f.e=m.e)(x:∀j,f.sv.ownBlock=T j->n<=j):LExt n L (o.set k f):=by
 refine⟨λi p b=>?_,λp b s=>?_⟩
 ·obtain⟨y,l,r⟩:=Z8.nam i p b;by_cases g:k=i
  ·subst g;rw[q] at l;cases l
   exact⟨f,L8 (j2.1 q).1,u.trans r⟩
  {exact⟨y,by rw[NL g];exact l,r⟩}
 {rcases LN b with t|rfl;{exact Z8.sn p t s};{exact .inr x}}
section
variable {w0:G}{S:Spc}{a0 a1:Option Addr}{c0 c1 hb:Nat}{md or st:ZD}{making:List ByteArray}{made:List Ent}{L:List SM}
set_option linter.unusedVariables false in
theorem lR:(∀(C:oR w0 S a0 a1) (w:G) (nm:ByteArray) (Z8:SI w0 hb (Z a0 S.n0 c0) (Z a1 S.n1 c1) w making made L md or st) (Ih:ZU L<=100000) (JM:ZU made<=100000) (h1:fI L nm=Y) (h3:atI (nm1 S.f1) S.n1 nm=Y) (f:Int) (tx:ByteArray) (hw:(atI (nm0 S.f0) S.n0 nm=Y/\f=4/\tx=nm)∨∃si,atI (nm0 S.f0) S.n0 nm=T si/\f=0/\tx=(S.f0 si).B) (kd:Int) (te:ByteArray),Calls Pg 75 #[.pointer (T (Q hb 0 Y)),U nm] w λe w'=>∃Hy Hx,e=ZG (ZH #[J I f,U tx,Z Y 0 0])/\SI w0 hb (Z a0 S.n0 c0) (Z a1 S.n1 c1) w' making (made++[⟨nm,kd,0,te,0,[]⟩]) ((L++[gj nm]).set (ZU L) ⟨nm,f,tx,[],Z Y 0 0,ZF⟩) Hy Hx st/\KS (A (h w0)) XN w w')/\(∀(C:oR w0 S a0 a1) (w:G) (nm:ByteArray) (Z8:SI w0 hb (Z a0 S.n0 c0) (Z a1 S.n1 c1) w making made L md or st) (Ih:ZU L<=100000) (h1:fI L nm=Y) (hi:atL making nm=Y) (tg:Nat) (h3:atI (nm1 S.f1) S.n1 nm=T tg) (X:Out Ent) (hd:(ZU making=60/\X=.inr (.inr nm))∨∃n',ZU making+(n'+1)=60/\mR w0 S hb (Z a0 S.n0 c0) (Z a1 S.n1 c1) n'/\fx L making made/\PG S making made/\eX S making made 1/\MT S making/\bc made nm=Y/\X=gZ nm tg (bS S (aL S n' (making++[nm])) tg 201 made [] [])),Calls Pg 75 #[.pointer (T (Q hb 0 Y)),U nm] w λe w'=>lO w0 hb (Z a0 S.n0 c0) (Z a1 S.n1 c1) making L w e w' X):=by
 refine⟨λC w nm Z8 Ih JM h1 h3 f tx hw kd te=>?_,λC w nm Z8 Ih h1 hi tg h3 X hd=>?_⟩;rotate_left;focus
  rcases hd with ⟨H9,hX⟩|⟨n',JX,HK,hrel,hp,th,JC,ZK,hX⟩
  case' inl=>(subst hX;have DEEP:=True.intro)
  case' inr =>
   obtain⟨-,ex⟩:=AH hrel ZK hi;have hmade:ZU made<=50000:=by unfold eX at th;omega
   have H9:ZU making<60:=by omega
   have ro:=(bN h3).1;obtain⟨R,hR⟩:∃R,R=bS S (aL S n' (making++[nm])) tg 201 made [] []:=⟨_,rfl⟩
   have HR:=ae hR;obtain⟨tb,JB,JG,IE⟩:=C.w.resolve_left (by omega);have Kk:=ae JG;have H6:=ae IE;have Iz:Hid (∀(W:G) (Hy Hx I9:ZD) (a:Option Addr) (cap:Nat),SI w0 hb (Z a0 S.n0 c0) (Z a1 S.n1 c1) W (making++[nm]) made (L++[gj nm]) Hy Hx I9->SlIns w0 a (S.f1 tg).l (S.f1 tg).u->Calls Pg 112 #[.pointer (T (Q hb 0 Y)),ZH #[Z a (S.f1 tg).l cap]] W λe w'=>oU w0 hb (Z a0 S.n0 c0) (Z a1 S.n1 c1) (making++[nm]) (L++[gj nm]) W e w' R):=by
    intro W Hy Hx I9 a cap hS Ie;rw[hR];refine Ds C n' HK made _ Hy Hx I9 W a cap tg (by rw[gB,CV];omega) hS (rL hrel ex rfl rfl) (kE hp ZK) ?_ ?_ ro Ie
    ·have:=ip ro (bN h3).2 ZK hi
     unfold eX at th ⊢;omega
    ·intro t ht
     rcases n6.1 ht with ht|ht
     ·exact JC t ht
     ·rw[j4.1 ht,h3];rfl
   have HI:=ae hi;have H0:=ae ZK;have JH:Hid (∀ZS x,R=.inl (ZS,x)->ZU ZS<=100000/\∀y∈ZS,y.e≠nm):=by intro ZS x he;rw[hR] at he;have g1:=iG C.ok ro (eN C.ok n' (making++[nm])) _ _ _ _ _ _ (kE hp ZK) (jv S made) rfl he;have l:=rz (λmade J9 Jp e=>lG S n' (making++[nm]) made J9 Jp e) _ _ _ _ _ _ he;have g3:=ip ro (bN h3).2 ZK hi;refine⟨?_,(nA g1.1).2⟩;unfold fY at l;unfold eX at th;omega
   have Ju:=ae ex;have HREL:=ae hrel;subst hX;rw[<-hR];clear HK hp th JC ZK IE JG hR ex hrel;clear JX ro
 all_goals
  obtain⟨im,Kf,KH,DQ,IF⟩:=kG Do;obtain⟨i1,Iv,Jk,Jf,IY⟩:=kG oS;obtain⟨W0,Ic⟩:∃W:G,ZV w (N #[J I 0,U ⟨#[]⟩,Z Y 0 0] 47)=W:=⟨_,rfl⟩
  obtain⟨A0,kr,-⟩:=nb1 Ic;have IA:=ae Ic;clear Ic;have S0:=ae (Z8.aa A0 ly);have D:A (h w0)<=A (h w):=Z8.lt;have e1:ee (fI L nm)=-1:=by rw[h1];rfl
  obtain⟨am,cm,rfl⟩:=jA Z8.ao;obtain⟨n,hn⟩:∃n,n=ZU L:=⟨_,rfl⟩
  have HN:=ae hn;have CC:=ae C;have hsm:=C.ok.bh;have hn1:n<=100000:=by omega
  clear Z8 h1 hn C
 rotate_left 2;focus
  have et:ee (atI (nm1 S.f1) S.n1 nm)=-1:=by rw[h3];rfl
  rcases hw with ⟨h2,DE,It⟩|⟨si,h2,DE,It⟩
  case' inl=>have es:ee (atI (nm0 S.f0) S.n0 nm)=-1:=by rw[h2];rfl
  case' inr =>
   have es:ee (atI (nm0 S.f0) S.n0 nm)=(si:Int):=by rw[h2];rfl
   have KE:=(bN h2).1;obtain⟨sb,so,Jw,Jt⟩:∃sb so,a0=T (Q sb so Y)/\RowSource w0 sb so S.n0 S.f0:=by
    rcases CC.src with Z8|⟨b,off,e,hr⟩
    ·omega
    ·exact⟨b,off,e,hr⟩
   have IW:=ae Jt;have Kd:=ae Jw;clear Jt Jw
  all_goals
   have JN:=ae It;have Jv:=ae DE;clear h2 h3 It DE
 rotate_left 2;iterate 2
  focus
   obtain⟨es0,es⟩:∃z,ee (atI (nm0 S.f0) S.n0 nm)=z:=⟨_,rfl⟩
   have et:ee (atI (nm1 S.f1) S.n1 nm)=(tg:Int):=by rw[h3];rfl
   have IQ:∀(j:Nat) (y:ByteArray),making[j]?=T y->(y.toList == nm.toList)=ZB:=λj y hy=>by unfold atL at hi;rw[N5] at hi;exact hi y (IN hy)
   have Kv:=ae IQ;obtain⟨ms,IC⟩:∃ms,ms=ZU making:=⟨_,rfl⟩
   have fd:=ae IC;have hT0:(0:Int)<=(tg:Int):=by omega
   have ro:=(bN h3).1;rw[<-IC] at H9;obtain⟨Jy,JF,rfl⟩:=jA S0.rst;clear h3 hi IQ IC
  rotate_left
 all_goals
  go_enter func75,ntmps75;go_wp2_with fail;rw[IA.out];clear IA;refine(oQ W0 nm S0 Ih).mono ?_;rintro e w1 ⟨rfl,JI⟩;rw[JI,e1];clear JI e1;obtain⟨ZQ,-,-,b2,-⟩:=S0.M.R;rw[<-HN.out] at b2;have A1:=ae ((q9 W0).alloc ly (N #[U nm,J I 0,U ⟨#[]⟩,Z Y 0 0,Z Y 0 0,ZC ZB] 137));have SA:=ae (S0.aa A1 ly);have RM:=ae (by have Z8:=SA.ao;rw[<-HN.out] at Z8;exact Z8);have J8:A (h (ZV W0 (N #[U nm,J I 0,U ⟨#[]⟩,Z Y 0 0,Z Y 0 0,ZC ZB] 137)))=A (h W0)+1:=by simp
  have HG:Hid (∀ZP:G,(ZV W0 (N #[U nm,J I 0,U ⟨#[]⟩,Z Y 0 0,Z Y 0 0,ZC ZB] 137)).grownBy ZP (Value.slice am n cm).ownBlock->ZP.heap[hb]?=(ZV W0 (N #[U nm,J I 0,U ⟨#[]⟩,Z Y 0 0,Z Y 0 0,ZC ZB] 137)).heap[hb]?):=λZP hg=>hg.block hb (by omega) λe=>by obtain⟨_,_,cs,hc⟩:=aj RM hb e.symm;exact absurd (au SA.M hc) (by decide)
  have J4:A (h w0)<=A (h (ZV W0 (N #[U nm,J I 0,U ⟨#[]⟩,Z Y 0 0,Z Y 0 0,ZC ZB] 137))):=SA.lt;have hz1':A (h W0)<A (h (ZV W0 (N #[U nm,J I 0,U ⟨#[]⟩,Z Y 0 0,Z Y 0 0,ZC ZB] 137))):=by omega
  clear J8
  go_upto_region 7 with (first
   |(at_builtin;refine bU _ rfl (.tmp 46) (.tmp 49) 79 rfl (A (h w0)) 137 im (ZH #[U ⟨#[]⟩,J I 0,U ⟨#[]⟩,Z Y 0 0,Z Y 0 0,ZC ZB]) 6 96 underlying79 Kf KH DQ IF rfl (by decide) (Z am n cm) n (L.flatMap smV) (by simp[Act.eval]) RM.out (Q (A (h W0)) 0 Y) 1 1 [U nm,J I 0,U ⟨#[]⟩,Z Y 0 0,Z Y 0 0,ZC ZB] (by simp[Act.eval]) rfl (Dx W0 _ _ _ _ _ _ _) (by simp[Value.oneCell']) (by unfold maxLen;omega) (by omega) J4 ?_;intro v2 ZP H r la;have O2:=ae H;have G2:=ae r;have JJ:=ae (HG ZP r);obtain⟨l,Fn,cu2,rfl,Ks⟩:=H.2.resolve_left (λZ8=>by omega);clear Ks H r la;obtain⟨JU,-,-,f2,-,-,-,-,-,-,ff⟩:=(ShBox.ab SA.M JJ).R;have Ku:=ff 2;clear ff)
   |fail)
  have SX:=ae (SA.addL (m:=gj nm) (w':=ZP) (v:=Z (T (Q l 0 Y)) (n+1) Fn) (by rw[<-HN.out];exact G2) (by rw[<-HN.out];exact O2) rfl);have S3:=ae SX.1;have K3:Hid (KS (A (h w0)) XN w (ZT ZP (Q hb 2 Y) (Z (T (Q l 0 Y)) (n+1) Fn))):=((KS.q (X:=XN) A0 ly D).to (KS.q A1 ly S0.lt)).to SX.2;have Iq:Hid ((ZT ZP (Q hb 2 Y) (Z (T (Q l 0 Y)) (n+1) Fn)).heap[A (h w)]?=T (N #[J I 0,U ⟨#[]⟩,Z Y 0 0] 47 (0,0))):=by have ZK:=(A1.block _ (ai kr)).trans kr;exact(SX.2.ab _ _ _ _ ZK (by decide) (by decide) (by decide) λZ8=>Z8).trans ZK
  have bt:(L++[gj nm]).length=n+1:=by rw[gB,CV,<-HN.out]
  have aq:Hid ((L++[gj nm])[n]?=T (gj nm)):=by rw[HN.out];show _=_;rw[KL ly,RV];rfl
  clear SX f2 Ku JU b2 ZQ RM SA A1 HG O2 G2 JJ;generalize World.setCell ZP _ _=W3 at S3 K3 Iq ⊢;obtain⟨ZQ,b0,b1,-⟩:=S3.M.R;go_wp2_with fail;refine(iu a0 S.n0 c0 a1 S.n1 c1 S.f0 nm W3 (by omega) (CC.src.aa S3.az ly)).mono ?_;rintro e w4 ⟨he,hB⟩;rw[es] at he;subst he;have S4:=ae (S3.aa hB ly);have IK:Hid (w4.heap[A (h w)]?=_):=(hB.block _ (ai Iq)).trans Iq;have K4:=ae (K3.to (KS.q (X:=XN) hB ly S3.lt));clear hB b0 b1 ZQ S3 K3 Iq;obtain⟨ZQ,b0,b1,-⟩:=S4.M.R;go_wp2_with fail;refine(iv a0 S.n0 c0 a1 S.n1 c1 S.f1 nm w4 (by omega) (CC.w.aa S4.az ly)).mono ?_;rintro e ZM ⟨he,hB⟩;rw[et] at he;subst he;have S5:=ae (S4.aa hB ly);have qr:Hid (ZM.heap[A (h w)]?=T (N #[J I 0,U ⟨#[]⟩,Z Y 0 0] 47 (0,0))):=(hB.block _ (ai IK)).trans IK;have K5:=ae (K4.to (KS.q (X:=XN) hB ly S4.lt));clear hB b0 b1 ZQ S4 K4 IK A0 S0 kr
 iterate 2
  ·first
    |guard_hyp IW
     have A5:=ae ((q9 ZM).alloc ly (N #[J I 4,U nm,Z Y 0 0] 47));have Jb:=ae (S5.aa A5 ly);have hI0:(0:Int)<=(si:Int):=by omega
     have hI1:(si:Int)<(S.n0:Int):=by omega
     have q0:ZW (ZV ZM (N #[J I 4,U nm,Z Y 0 0] 47)) (Q hb 0 Y)=T (Z (T (Q sb so Y)) S.n0 c0):=by have Z8:=Jb.M.R.2.1;rw[Kd.out] at Z8;exact Z8
     have q1:ZW (ZV ZM (N #[J I 4,U nm,Z Y 0 0] 47)) (Q sb (so+si*2+1) Y)=T (U tx):=by rw[JN.out];exact((IW.aa Jb.az ly).2 si KE).2
     have ZQ:=S5.M.R.1;have ql:sb<A (h ZM):=lj IW.1 S5.lt;go_upto_region 13 with fail;clear q0 q1 ql ZQ A5 Jb;obtain⟨ZZ,Id⟩:∃W:G,ZV ZM (N #[J I 0,U tx,Z Y 0 0] 47)=W:=⟨_,rfl⟩
     obtain⟨A6,-,-⟩:=nb1 Id;have Ia:=ae Id;clear Id;have kb:Hid (ZZ.heap[A (h ZM)]?=T (N #[J I f,U tx,Z Y 0 0] 47 (0,0))):=by rw[<-Ia.out];rw[Jv.out];exact nD _ _
     rw[Ia.out];clear Ia
    |skip
     go_upto_region 13 with fail;have kb:Hid ((ZV ZM (N #[J I 4,U nm,Z Y 0 0] 47)).heap[A (h ZM)]?=T (N #[J I f,U tx,Z Y 0 0] 47 (0,0))):=by rw[Jv.out,JN.out];exact nD _ _
     have A6:=ae ((q9 ZM).alloc ly (N #[J I 4,U nm,Z Y 0 0] 47));generalize World.alloc ZM _=ZZ at A6 kb ⊢
   have ZN:=ae (S5.aa A6 ly);have ph:Hid (ZZ.heap[A (h w)]?=T (N #[J I 0,U ⟨#[]⟩,Z Y 0 0] 47 (0,0))):=(A6.block _ (ai qr)).trans qr;have K6:=ae (K5.to (KS.q (X:=XN) A6 ly S5.lt));obtain⟨s,Hq⟩:∃s,s=A (h ZM):=⟨_,rfl⟩
   rw[<-Hq] at kb ⊢;have JW:A (h w)<=s:=by have:=K5.aa.size;omega
   clear Hq A6 S5 qr K5;obtain⟨ZQ,-,-,b2,-⟩:=ZN.M.R;obtain⟨rl,r0,r1,r2,-⟩:=bI kb;obtain⟨JQ,JZ,Is,DS⟩:=aj ZN.ao l rfl;have Fd:=ae DS;have R6:=ae (by have Z8:=ZN.ao;rw[bt] at Z8;exact Z8);have q1:ZW ZZ (Q l (n*6+1) Y)=T (J I 0):=cB (by rw[bt];exact R6) aq 1 (by omega) rfl;have q2:ZW ZZ (Q l (n*6+1+1) Y)=T (U ⟨#[]⟩):=cB (by rw[bt];exact R6) aq 2 (by omega) rfl;have q3:ZW ZZ (Q l (n*6+1+2) Y)=T (Z Y 0 0):=cB (by rw[bt];exact R6) aq 3 (by omega) rfl;have qf:∀j,ZX ZZ (Q l j Y)=ZB:=λj=>by simp[World.frozen?,DS]
   have I6:=qf (n*6+1);have Jh:=qf (n*6+1+1);have Jc:=qf (n*6+1+2);clear qf DS;have Kw:(n:Int)<(n:Int)+1:=by omega
   have ld:l≠hb:=by intro e;have Z8:=Fd.out;rw[e] at Z8;exact absurd (au Z8 ZN.M) (by decide)
   have o:l≠s:=by intro e;have Z8:=Fd.out;rw[e] at Z8;exact absurd (au Z8 kb) (by decide)
   refine wp_region_held_drew (S:=λV=>ZW V (Q hb 2 Y)=T (Z (T (Q l 0 Y)) (n+1) Fn)/\ZW V (Q s 0 Y)=T (J I f)/\ZW V (Q s 1 Y)=T (U tx)/\ZW V (Q s 2 Y)=T (Z Y 0 0)) (by kernel_rfl) ⟨b2,r0,r1,r2⟩ λhS=>?_;have HS:=ae hS;clear hS
   iterate 8
    first|refine aW 0 (v:=?_) rfl rfl (by kernel_rfl) (λ_ _ _ Z8=>Z8) rfl ?_ HS ?_|refine aW 4 (v:=?_) rfl rfl (by kernel_rfl) (λ_ _ _ Z8=>Z8) rfl ?_ HS ?_
    rotate_left
    ·(rintro wz ⟨s0,s1,s2,s3⟩;go_simp)
     (try with_reducible rfl)
    (try simp only[Act.put,nzL])
   have TL:=ae (ZN.told bt aq rfl f tx)
   have Hz:Hid ((ZT (ZT (ZT ZZ (Q l (n*6+1) Y) (J I f)) (Q l (n*6+1+1) Y) (U tx)) (Q l (n*6+1+2) Y) (Z Y 0 0)).drew.cell? (Q hb 2 Y)=T (Z (T (Q l 0 Y)) (n+1) Fn)/\(ZT (ZT (ZT ZZ (Q l (n*6+1) Y) (J I f)) (Q l (n*6+1+1) Y) (U tx)) (Q l (n*6+1+2) Y) (Z Y 0 0)).drew.cell? (Q s 0 Y)=T (J I f)/\(ZT (ZT (ZT ZZ (Q l (n*6+1) Y) (J I f)) (Q l (n*6+1+1) Y) (U tx)) (Q l (n*6+1+2) Y) (Z Y 0 0)).drew.cell? (Q s 1 Y)=T (U tx)/\(ZT (ZT (ZT ZZ (Q l (n*6+1) Y) (J I f)) (Q l (n*6+1+1) Y) (U tx)) (Q l (n*6+1+2) Y) (Z Y 0 0)).drew.cell? (Q s 2 Y)=T (Z Y 0 0)) :=
    ⟨(cell_far _ _ _ _ ld).trans ((cell_far _ _ _ _ ld).trans ((cell_far _ _ _ _ ld).trans b2)),(cell_far _ _ _ _ o).trans ((cell_far _ _ _ _ o).trans ((cell_far _ _ _ _ o).trans r0)),(cell_far _ _ _ _ o).trans ((cell_far _ _ _ _ o).trans ((cell_far _ _ _ _ o).trans r1)),(cell_far _ _ _ _ o).trans ((cell_far _ _ _ _ o).trans ((cell_far _ _ _ _ o).trans r2))⟩
   refine aS (i:=8) rfl (by kernel_rfl) λK hK=>?_;go_simp;refine hK _ _ Hz ?_;clear hK K HS q1 q2 q3 I6 Jh Jc b2 r0 r1 r2 rl
   (try simp only[Act.put])
   refine wpAnyH_done (by kernel_rfl) ?_ _;have D7:Hid (Below (A (h (ZT (ZT (ZT ZZ (Q l (n*6+1) Y) (J I f)) (Q l (n*6+1+1) Y) (U tx)) (Q l (n*6+1+2) Y) (Z Y 0 0)))) (ZT (ZT (ZT ZZ (Q l (n*6+1) Y) (J I f)) (Q l (n*6+1+1) Y) (U tx)) (Q l (n*6+1+2) Y) (Z Y 0 0)) (ZT (ZT (ZT ZZ (Q l (n*6+1) Y) (J I f)) (Q l (n*6+1+1) Y) (U tx)) (Q l (n*6+1+2) Y) (Z Y 0 0)).drew):=br.drew;have S7:=ae (TL.1.aa D7 ly);have K7:=ae (K6.to (TL.2.1.to (KS.q (X:=XN) D7 ly TL.1.lt)));have Hv:=TL.2.2.1;have Hr:=TL.2.2.2;have P:Hid ((ZT (ZT (ZT ZZ (Q l (n*6+1) Y) (J I f)) (Q l (n*6+1+1) Y) (U tx)) (Q l (n*6+1+2) Y) (Z Y 0 0)).drew.heap[A (h w)]?=T (N #[J I 0,U ⟨#[]⟩,Z Y 0 0] 47 (0,0))):=by have ZK:=(TL.2.1.ab _ _ _ _ ph (by decide) (by decide) (by decide) λZ8=>Z8).trans ph;exact ZK
   have n7:Hid ((ZT (ZT (ZT ZZ (Q l (n*6+1) Y) (J I f)) (Q l (n*6+1+1) Y) (U tx)) (Q l (n*6+1+2) Y) (Z Y 0 0)).drew.heap[s]?=T (N #[J I f,U tx,Z Y 0 0] 47 (0,0))):=by have ZK:=(TL.2.1.ab _ _ _ _ kb (by decide) (by decide) (by decide) λZ8=>Z8).trans kb;exact ZK
   have GS:=ae Hv;have Fk:=ae Hr;clear TL Hz Hv Hr ph kb K6 ZN R6 Fd D7;generalize World.drew (World.setCell (World.setCell (World.setCell ZZ _ _) _ _) _ _)=W7 at S7 K7 P n7 ⊢;obtain⟨ZQ,-,-,b2,-⟩:=S7.M.R;obtain⟨Io,Ip,JE,sm⟩:=aj S7.ao l rfl;have q5:ZW W7 (Q l (n*6+5) Y)=T (ZC ZB):=cB (by have Z8:=S7.ao;rw[Fk.out] at Z8 ⊢;exact Z8) GS 5 (by omega) rfl;have IG:ZX W7 (Q l (n*6+5) Y)=ZB:=by simp[World.frozen?,sm]
   have TD:=ae (S7.upd' Fk GS (j:=5) (by omega) (u:=ZC ZF) (m':=⟨nm,f,tx,[],Z Y 0 0,ZF⟩) rfl (λ_=>⟨rfl,.inl ⟨rfl,rfl⟩⟩));have B:Hid ((ZT W7 (Q l (n*6+5) Y) (ZC ZF)).heap[A (h w)]?=T (N #[J I 0,U ⟨#[]⟩,Z Y 0 0] 47 (0,0))):=(TD.2.1.ab _ _ _ _ P (by decide) (by decide) (by decide) λZ8=>Z8).trans P;have ZJ:Hid ((ZT W7 (Q l (n*6+5) Y) (ZC ZF)).heap[s]?=T (N #[J I f,U tx,Z Y 0 0] 47 (0,0))):=(TD.2.1.ab _ _ _ _ n7 (by decide) (by decide) (by decide) λZ8=>Z8).trans n7;have S8:=ae TD.1;have K8:=ae (K7.to TD.2.1);clear sm;go_upto_region 15 with fail;clear b2 q5 IG TD S7 K7 P n7;generalize World.setCell W7 _ _=M at S8 K8 B ZJ ⊢;obtain⟨ao,co,rfl⟩:=jA S8.ror;obtain⟨q,hq⟩:∃q,q=ZU made:=⟨_,rfl⟩
   have HQ:=ae hq;rw[<-hq] at JM;clear hq;obtain⟨ZQ,-,-,-,b3,-⟩:=S8.M.R;rw[<-HQ.out] at b3;have O:=ae ((q9 M).alloc ly (N #[U nm] 9));have S9:=ae (S8.aa O ly);have RO:=ae (by have Z8:=S9.ror;rw[<-HQ.out] at Z8;exact Z8);have H7:A (h w0)<=A (h (ZV M (N #[U nm] 9))):=S9.lt;have HG:Hid (∀ZP:G,(ZV M (N #[U nm] 9)).grownBy ZP (Value.slice ao q co).ownBlock->ZP.heap[hb]?=(ZV M (N #[U nm] 9)).heap[hb]?/\ZP.heap[A (h w)]?=(ZV M (N #[U nm] 9)).heap[A (h w)]?/\ZP.heap[s]?=(ZV M (N #[U nm] 9)).heap[s]?):=λZP hg=>by
    have ex:∀(i:Nat) (cs:Array ZD) (t:ZI) (fz:Nat × Nat),(ZV M (N #[U nm] 9)).heap[i]?=T (Obj.cells cs t fz)->t≠9->ZP.heap[i]?=(ZV M (N #[U nm] 9)).heap[i]?:=λi cs t fz hi ht=>hg.block i (ai hi) λe=>by obtain⟨_,_,Is,hc⟩:=aj RO i e.symm;exact ht (au hi hc)
    exact⟨ex _ _ _ _ S9.M (by decide),ex _ _ _ _ ((O.block _ (ai B)).trans B) (by decide),ex _ _ _ _ ((O.block _ (ai ZJ)).trans ZJ) (by decide)⟩
   have Hn:Hid ((ZV M (N #[U nm] 9)).heap[A (h w)]?=T (N #[J I 0,U ⟨#[]⟩,Z Y 0 0] 47 (0,0))):=(O.block _ (ai B)).trans B;have Jo:Hid ((ZV M (N #[U nm] 9)).heap[s]?=T (N #[J I f,U tx,Z Y 0 0] 47 (0,0))):=(O.block _ (ai ZJ)).trans ZJ;have hbw:¬ hb=A (h w):=λe=>by have Z8:=S8.M;unfold ShBox at Z8;rw[e] at Z8;exact absurd (au Z8 B) (by decide)
   have Bk:¬ (A (h w))=hb:=λe=>hbw e.symm;have IB:¬ hb=s:=λe=>by have Z8:=S8.M;unfold ShBox at Z8;rw[e] at Z8;exact absurd (au Z8 ZJ) (by decide)
   have JT:¬ s=hb:=λe=>IB e.symm
   go_wp2_with (first
    |(at_builtin;refine bU _ rfl (.tmp 100) (.tmp 102) 45 rfl (A (h w0)) 9 i1 (U ⟨#[]⟩) 1 16 LZ Iv Jk Jf IY rfl (by decide) (Z ao q co) q (cI (made.map (·.e))) (by simp[Act.eval]) RO.out (Q (A (h M)) 0 Y) 1 1 [U nm] (by simp[Act.eval]) rfl (oV M _ _) (by simp[Value.oneCell']) (by unfold maxLen;omega) (by omega) H7 ?_;intro v9 w9 H r la;have O9:=ae H;have G9:=ae r;have IJ:=ae la;have n9:=ae (HG w9 r);obtain⟨g9,c9,KF,rfl,Ja⟩:=H.2.resolve_left (λZ8=>by omega);clear Ja H r la;obtain⟨JP,-,-,-,f3,-,-,-,-,-,ff⟩:=(ShBox.ab S9.M n9.1).R;have Kx:=ff 3;obtain⟨rl,r0,r1,r2,rf⟩:=bI (n9.2.1.trans Hn);have II:=rf 0;have IP:=rf 1;have I5:=rf 2;obtain⟨pl,p0,p1,p2,pf⟩:=bI (n9.2.2.trans Jo);clear ff rf pf)
    |fail)
   have Ho:=ae (S9.ord (x:=⟨nm,kd,0,te,0,[]⟩) (w':=w9) (v:=Z (T (Q g9 0 Y)) (q+1) c9) (by rw[<-HQ.out];exact G9) (by rw[<-HQ.out];exact O9) (by rw[<-HQ.out];exact IJ));refine bp (v:=ZH #[J I f,U tx,Z Y 0 0]) (by simp[results,PC,go_sem,r0,r1,r2]) rfl ?_;have Hw:=(qh w9 (Q hb 3 Y) (Z (T (Q g9 0 Y)) (q+1) c9) (A (h w)) Bk).trans (n9.2.1.trans Hn);refine⟨Z (T (Q l 0 Y)) (n+1) Fn,Z (T (Q g9 0 Y)) (q+1) c9,rfl,?_,?_⟩
   ·rw[<-HN.out]
    have x0:=Ho.1;rw[RY] at x0;replace x0:=x0.ak Hw ⟨by decide,by decide,by decide,by decide⟩ D 0 (J I f);have y0:=aB Hw (j:=0) (J I f);have x1:=x0.ak y0 ⟨by decide,by decide,by decide,by decide⟩ D 1 (U tx);exact x1.ak (aB y0 (j:=1) (U tx)) ⟨by decide,by decide,by decide,by decide⟩ D 2 (Z Y 0 0)
   ·have k0:=(K8.to (KS.q (X:=XN) O ly S8.lt)).to Ho.2
    exact((k0.fresh ly D 0 _).fresh ly D 1 _).fresh ly D 2 _
 all_goals
  obtain⟨ZQ,-,-,-,-,b4,b5,b6,b7,b8,bf⟩:=S5.M.R;have IL:=bf 4;have Kc:=bf 5;have Kp:=bf 6;have Kl:=bf 7;have J7:=bf 8;rw[<-fd.out] at b4;clear bf;go_wp2_with fail;go_loop [9] (λi=>∃j:Nat,j<=ms/\i=J I j) (λi=>ms - (intOf i).toNat);case atStart=>exact⟨0,by omega,rfl⟩
  case' round =>
  obtain⟨j,hj,rfl⟩:=hrel;by_cases hlt:j<ms
  ·obtain⟨y,hy⟩:∃y,making[j]?=T y:=⟨_,gq (by have:=fd.out;omega)⟩
   obtain⟨gs,cs,cus,ev,-⟩:=S5.rst.2.resolve_left (λZ8=>by have:=fd.out;omega);rw[<-fd.out] at ev;cases ev
   have dj:ZW ZM (Q gs j Y)=T (U y):=uJ S5.rst hy;have hjm:(j:Int)<(ms:Int):=by omega
   have Ju:=ae (Kv j y hy);clear hy;have ex:=Ju.out;go_wp2;exact⟨⟨j+1,by omega,by go_num⟩,by simp[intOf];omega⟩
  obtain rfl:j=ms:=by omega
 ·have hI60:¬ (60:Int)<=(j:Int):=by omega
  clear b5 b6 b7 b8 Kc Kp Kl J7;have A6:=ae ((q9 ZM).alloc ly (N #[U nm] 9));have ZN:=ae (S5.aa A6 ly);have RS:=ae (by have Z8:=ZN.rst;rw[<-fd.out] at Z8;exact Z8);have Jd:A (h w0)<=A (h (ZV ZM (N #[U nm] 9))):=ZN.lt;obtain⟨q0,aa,ca,q1,-⟩:=(H6.aa ZN.az ly).2 tg ro;obtain⟨-,aa',ca',JL,Ie⟩:=H6.2 tg ro;have Ib:=H6.1;have e1:=(ZN.az.cell (p:=(Q tb (JB+tg*2+1) Y)) Ib).trans JL;rw[q1] at e1;simp only[KN,KU,TG] at e1;obtain⟨rfl,rfl⟩:=e1;have Kt:=ae Ie;have Q1:=ae q1;clear q0 q1 JL Ie;have Iu:Hid ((ZV ZM (N #[U nm] 9)).heap[A (h w)]?=T (N #[J I 0,U ⟨#[]⟩,Z Y 0 0] 47 (0,0))):=(A6.block _ (ai qr)).trans qr;have HG:Hid (∀ZP:G,(ZV ZM (N #[U nm] 9)).grownBy ZP (Value.slice Jy j JF).ownBlock->ZP.heap[hb]?=(ZV ZM (N #[U nm] 9)).heap[hb]?/\ZP.heap[tb]?=(ZV ZM (N #[U nm] 9)).heap[tb]?):=λZP hg=>by
   refine⟨hg.block hb (ai ZN.M) λe=>?_,hg.block tb (lj Ib Jd) λe=>?_⟩;{obtain⟨_,_,Is,hc⟩:=aj RS hb e.symm;exact absurd (au ZN.M hc) (by decide)};{have:=(aj RS tb e.symm).1;omega}
  have Kz:A (h w0)<=hb:=S5.hbB;have htbh:¬ tb=hb:=by omega
  have htbh':¬ hb=tb:=by omega
  have htI:(tg:Int)<(S.n1:Int):=by omega
  go_wp2_with (first
   |(at_builtin;refine bU _ rfl (.tmp 166) (.tmp 168) 45 rfl (A (h w0)) 9 i1 (U ⟨#[]⟩) 1 16 LZ Iv Jk Jf IY rfl (by decide) (Z Jy j JF) j (cI making) (by simp[Act.eval]) RS.out (Q (A (h ZM)) 0 Y) 1 1 [U nm] (by simp[Act.eval]) rfl (oV ZM _ _) (by simp[Value.oneCell']) (by unfold maxLen;omega) (by omega) Jd ?_;intro v7 w7 H r la;have O7:=ae H;have G7:=ae r;have JD:=ae la;have Jg:=ae (HG w7 r);obtain⟨g7,c7,cu7,rfl,J6⟩:=H.2.resolve_left (λZ8=>by omega);clear J6 H r la;obtain⟨I7,-,f1,-,-,f4,-,-,-,-,ff⟩:=(ShBox.ab ZN.M Jg.1).R;have Ke:=ff 4;rw[Kk.out] at f1;have f9:=(cq (a:=(Q tb (JB+tg*2+1) Y)) Jg.2).trans Q1.out;have Km:tb<A (h w7):=(lj (lj Ib Kz) (PD I7));clear ff)
   |fail)
  have SP:=ae (ZN.push (nm:=nm) (w':=w7) (v:=Z (T (Q g7 0 Y)) (j+1) c7) (by rw[<-fd.out];exact G7) (by rw[<-fd.out];exact O7) (by rw[<-fd.out];exact JD));have S7:=ae SP.1;have K7:Hid (KS (A (h w0)) XN w (ZT w7 (Q hb 4 Y) (Z (T (Q g7 0 Y)) (j+1) c7))):=(K5.to (KS.q (X:=XN) A6 ly S5.lt)).to SP.2;have P:Hid ((ZT w7 (Q hb 4 Y) (Z (T (Q g7 0 Y)) (j+1) c7)).heap[A (h w)]?=T (N #[J I 0,U ⟨#[]⟩,Z Y 0 0] 47 (0,0))):=(SP.2.ab _ _ _ _ Iu (by decide) (by decide) (by decide) λZ8=>Z8).trans Iu;clear SP f1 f4 f9 Ke I7 Km O7 G7 JD Jg HG RS ZN A6 Iu Q1 S5 K5 qr b4 IL ZQ;generalize World.setCell w7 _ _=W7 at S7 K7 P ⊢;refine(Iz W7 _ _ _ aa ca S7 Kt).mono ?_;clear Iz;rintro e w8 Hl;rcases R with ⟨ZS,x⟩|c|d
  ·obtain⟨L1,md1,J5,st1,gx,cx,rfl,Hp,ur,Ig,JR,IM,n8⟩:=Hl;obtain⟨J0,Jn⟩:=JH.out ZS x rfl;clear JH;obtain⟨f,DE⟩:∃f,f=x.1.E:=⟨_,rfl⟩
   obtain⟨E,IX⟩:∃E,E=x.1.B:=⟨_,rfl⟩
   obtain⟨ls,Ik⟩:∃ls,ls=x.2:=⟨_,rfl⟩
   obtain⟨ln,Ii⟩:∃ln,ln=ZU ls:=⟨_,rfl⟩
   have ID:gZ nm tg (.inl (ZS,x))=.inl ((ZS++[⟨nm,3,f,E,tg,ls⟩]),⟨nm,3,f,E,tg,ls⟩):=by rw[DE,IX,Ik];rfl
   have JV:=ae ID;rw[<-Ik,<-Ii] at Ig;rw[<-DE,<-IX,<-Ik,<-Ii];clear ID DE IX Ik;have JO:=ae Ii;clear Ii;obtain⟨m1,DQ,At⟩:=IM.nam n (gj nm) aq;replace At:m1.e=nm:=At;have Kh:Hid (m1.done=ZB):=by
    obtain⟨m2,IF,e2,e3⟩:=ur.mkg nm (LM _ (j4.2 rfl));obtain⟨i2,IZ⟩:=ME IF;have e4:=xd ur.nod IZ DQ (e2.trans At.symm);rw[e4,DQ] at IZ;cases IZ
    exact e3
   have aq:=ae DQ;obtain⟨ZO,hN⟩:∃ZO,ZO=ZU L1:=⟨_,rfl⟩
   have bt:ZU L1=ZO:=hN.symm;have hnN:n<ZO:=by rw[hN];exact(j2.1 DQ).1
   obtain⟨g,Ht,cum,rfl,-⟩:=Hp.ao.2.resolve_left (λZ8=>by omega);obtain⟨gp,ZL,cup,rfl,JK⟩:=Hp.rst.2.resolve_left (λZ8=>by rw[gB,CV] at Z8;omega);have hcp:j+1<=ZL:=by have:=JK.2.2.1;rw[gB,CV,<-fd.out] at this;exact this
   rw[bt,gB,CV,<-fd.out] at Hp;have KW:=ae (K7.to n8);have B:Hid (w8.heap[A (h w)]?=T (N #[J I 0,U ⟨#[]⟩,Z Y 0 0] 47 (0,0))):=(n8.ab _ _ _ _ P (by decide) (by decide) (by decide) λZ8=>Z8).trans P;have Je:A (h w)<=A (h W7):=K7.aa.size;have X8:=ae (((LExt.add (A (h w)) L (m:=gj nm) rfl).trans IM Je));have Ko:Hid (A (h w)<=gx):=AD Je (aj Ig gx rfl).1;have Ka:=ae (aA Ig (AD D Je));have JS:=ae ur;have hw8:A (h w)<=A (h w8):=KW.aa.size;have Iy:=ae Hp;have Ji:=ae At;have JY:=ae Jn;clear Hp ur Ig JR IM n8 At DQ Jn JK S7 K7 P hN;have O:=ae ((q9 w8).alloc ly (N #[J I f,U E,Z Y 0 0] 47));have kb:Hid ((ZV w8 (N #[J I f,U E,Z Y 0 0] 47)).heap[A (h w8)]?=T (N #[J I f,U E,Z Y 0 0] 47 (0,0))):=nD _ _;have Ij:=ae (Iy.aa O ly);have K9:=ae (KS.q (X:=XN) O ly Iy.lt);have Im:Hid ((ZV w8 (N #[J I f,U E,Z Y 0 0] 47)).heap[A (h w)]?=T (N #[J I 0,U ⟨#[]⟩,Z Y 0 0] 47 (0,0))):=(O.block _ (ai B)).trans B;go_upto_region 30 with fail;generalize World.alloc w8 _=W9 at O kb Ij K9 Im ⊢;obtain⟨s,Hq⟩:∃s,s=A (h w8):=⟨_,rfl⟩
   rw[<-Hq] at kb ⊢;have JW:A (h w)<=s:=by omega
   clear Hq O Iy B;obtain⟨ZQ,-,-,-,-,b4,-,-,-,b8,bf⟩:=Ij.M.R;have IL:=bf 4;clear bf;go_upto_region 32 with fail;have Kq:IntKind.i64.wrap (j:Int)=(j:Int):=GV (by omega) (by omega);have Kn:(0:Int)<=(j:Int):=by omega
   have Kg:(j:Int)<=(ZL:Int):=by omega
   refine aD (λV=>ZW V (Q hb 4 Y)=T (Z (T (Q gp 0 Y)) (j+1) ZL)) 14 (by kernel_rfl) ?_;have HS:Hid (W9.drew.cell? (Q hb 4 Y)=T (Z (T (Q gp 0 Y)) (j+1) ZL)):=b4;iterate 10
    refine aM 0 (v:=?_) rfl rfl (by kernel_rfl) (λ_ _ _ Z8=>Z8) rfl ?_ HS ?_;rotate_left
    ·(intro wz s0;go_simp)
     (try with_reducible rfl)
    (try simp only[Act.put,nzL])
   refine iy (i:=10) (v:=J I (j:Int)) rfl (by kernel_rfl) (by kernel_rfl) (by kernel_rfl) (by kernel_rfl) (λ_ _ _ Z8=>Z8) rfl ?_ HS ?_;{intro wz s0;go_simp}
   (try simp only[Act.put,nzL])
   refine iy (i:=11) (v:=Z (T (Q gp 0 Y)) j ZL) rfl (by kernel_rfl) (by kernel_rfl) (by kernel_rfl) (by kernel_rfl) (λ_ _ _ Z8=>Z8) rfl ?_ HS ?_;{intro wz s0;go_simp}
   (try simp only[Act.put,nzL])
   iterate 2
    refine bY 12 rfl rfl (by kernel_rfl) λK hK=>?_;go_simp;refine hK _ _ (λ_=>HS) ?_;clear hK K
    (try simp only[Act.put,nzL])
   have PP:Hid (SI w0 hb (Z a0 S.n0 c0) (Z a1 S.n1 c1) (ZT W9 (Q hb 4 Y) (Z (T (Q gp 0 Y)) j ZL)) making ZS L1 (Z (T (Q g 0 Y)) ZO Ht) J5 (Z (T (Q gp 0 Y)) j ZL)/\KS (A (h w0)) XN W9 (ZT W9 (Q hb 4 Y) (Z (T (Q gp 0 Y)) j ZL))):=by have Z8:=Ij.out;rw[fd.out] at Z8 ⊢;exact Z8.pop
   refine ah (i:=14) rfl (by kernel_rfl) λK hK=>?_;go_simp;refine hK _ _ (λZ8=>absurd rfl Z8) ?_;clear hK K HS b4 IL b8
   (try simp only[Act.put])
   refine bk (by kernel_rfl) ?_ _;have D6:Hid (Below (A (h (ZT W9 (Q hb 4 Y) (Z (T (Q gp 0 Y)) j ZL)))) (ZT W9 (Q hb 4 Y) (Z (T (Q gp 0 Y)) j ZL)) (ZT W9 (Q hb 4 Y) (Z (T (Q gp 0 Y)) j ZL)).drew):=br.drew;have ZN:=ae (PP.1.aa D6 ly);have K6:=ae ((K9.to PP.2).to (KS.q (X:=XN) D6 ly PP.1.lt));have ph:Hid ((ZT W9 (Q hb 4 Y) (Z (T (Q gp 0 Y)) j ZL)).drew.heap[A (h w)]?=T (N #[J I 0,U ⟨#[]⟩,Z Y 0 0] 47 (0,0))):=(PP.2.ab _ _ _ _ Im (by decide) (by decide) (by decide) λZ8=>Z8).trans Im;have Iw:Hid ((ZT W9 (Q hb 4 Y) (Z (T (Q gp 0 Y)) j ZL)).drew.heap[s]?=T (N #[J I f,U E,Z Y 0 0] 47 (0,0))):=(PP.2.ab _ _ _ _ kb (by decide) (by decide) (by decide) λZ8=>Z8).trans kb;clear PP D6 Ij K9 Im kb Kq Kn Kg ZQ;generalize World.drew (World.setCell W9 _ _)=ZZ at ZN K6 ph Iw ⊢;have kb:=ae Iw.out;clear Iw;go_upto_region 33 with fail;obtain⟨ZQ,-,-,b2,-⟩:=ZN.M.R;obtain⟨rl,r0,r1,r2,-⟩:=bI kb;obtain⟨JQ,JZ,Is,DS⟩:=aj ZN.ao g rfl;have Fd:=ae DS;have R6:Hid (ZY ZZ (A (h w0)) 137 6 (Z (T (Q g 0 Y)) ZO Ht) ZO (L1.flatMap smV)):=by have Z8:=ZN.ao;rw[bt] at Z8;exact Z8
   have q1:ZW ZZ (Q g (n*6+1) Y)=T (J I m1.E):=cB (by rw[bt];exact R6) aq 1 (by omega) rfl;have q2:ZW ZZ (Q g (n*6+1+1) Y)=T (U m1.B):=cB (by rw[bt];exact R6) aq 2 (by omega) rfl;have q3:ZW ZZ (Q g (n*6+1+2) Y)=T (Z Y 0 0):=cB (by rw[bt];exact R6) aq 3 (by omega) rfl;have qf:∀j,ZX ZZ (Q g j Y)=ZB:=λj=>by simp[World.frozen?,DS]
   have I6:=qf (n*6+1);have Jh:=qf (n*6+1+1);have Jc:=qf (n*6+1+2);clear qf DS;have Kw:(n:Int)<(ZO:Int):=by omega
   have ld:g≠hb:=by intro e;have Z8:=Fd.out;rw[e] at Z8;exact absurd (au Z8 ZN.M) (by decide)
   have o:g≠s:=by intro e;have Z8:=Fd.out;rw[e] at Z8;exact absurd (au Z8 kb) (by decide)
   refine wp_region_held_drew (S:=λV=>ZW V (Q hb 2 Y)=T (Z (T (Q g 0 Y)) ZO Ht)/\ZW V (Q s 0 Y)=T (J I f)/\ZW V (Q s 1 Y)=T (U E)/\ZW V (Q s 2 Y)=T (Z Y 0 0)) (by kernel_rfl) ⟨b2,r0,r1,r2⟩ λhS=>?_;have HS:=ae hS;clear hS;iterate 8
    first|refine aW 0 (v:=?_) rfl rfl (by kernel_rfl) (λ_ _ _ Z8=>Z8) rfl ?_ HS ?_|refine aW 4 (v:=?_) rfl rfl (by kernel_rfl) (λ_ _ _ Z8=>Z8) rfl ?_ HS ?_
    rotate_left
    ·(rintro wz ⟨s0,s1,s2,s3⟩;go_simp)
     (try with_reducible rfl)
    (try simp only[Act.put,nzL])
   have TL:=ae (ZN.told bt aq Kh f E);have Hz:Hid ((ZT (ZT (ZT ZZ (Q g (n*6+1) Y) (J I f)) (Q g (n*6+1+1) Y) (U E)) (Q g (n*6+1+2) Y) (Z Y 0 0)).drew.cell? (Q hb 2 Y)=T (Z (T (Q g 0 Y)) ZO Ht)/\(ZT (ZT (ZT ZZ (Q g (n*6+1) Y) (J I f)) (Q g (n*6+1+1) Y) (U E)) (Q g (n*6+1+2) Y) (Z Y 0 0)).drew.cell? (Q s 0 Y)=T (J I f)/\(ZT (ZT (ZT ZZ (Q g (n*6+1) Y) (J I f)) (Q g (n*6+1+1) Y) (U E)) (Q g (n*6+1+2) Y) (Z Y 0 0)).drew.cell? (Q s 1 Y)=T (U E)/\(ZT (ZT (ZT ZZ (Q g (n*6+1) Y) (J I f)) (Q g (n*6+1+1) Y) (U E)) (Q g (n*6+1+2) Y) (Z Y 0 0)).drew.cell? (Q s 2 Y)=T (Z Y 0 0)) :=
    ⟨(cell_far _ _ _ _ ld).trans ((cell_far _ _ _ _ ld).trans ((cell_far _ _ _ _ ld).trans b2)),(cell_far _ _ _ _ o).trans ((cell_far _ _ _ _ o).trans ((cell_far _ _ _ _ o).trans r0)),(cell_far _ _ _ _ o).trans ((cell_far _ _ _ _ o).trans ((cell_far _ _ _ _ o).trans r1)),(cell_far _ _ _ _ o).trans ((cell_far _ _ _ _ o).trans ((cell_far _ _ _ _ o).trans r2))⟩
   refine aS (i:=8) rfl (by kernel_rfl) λK hK=>?_;go_simp;refine hK _ _ Hz ?_;clear hK K HS q1 q2 q3 I6 Jh Jc b2 r0 r1 r2 rl
   (try simp only[Act.put])
   refine wpAnyH_done (by kernel_rfl) ?_ _;have D7:Hid (Below (A (h (ZT (ZT (ZT ZZ (Q g (n*6+1) Y) (J I f)) (Q g (n*6+1+1) Y) (U E)) (Q g (n*6+1+2) Y) (Z Y 0 0)))) (ZT (ZT (ZT ZZ (Q g (n*6+1) Y) (J I f)) (Q g (n*6+1+1) Y) (U E)) (Q g (n*6+1+2) Y) (Z Y 0 0)) (ZT (ZT (ZT ZZ (Q g (n*6+1) Y) (J I f)) (Q g (n*6+1+1) Y) (U E)) (Q g (n*6+1+2) Y) (Z Y 0 0)).drew):=br.drew;have S7:=ae (TL.1.aa D7 ly);have K7:=ae (K6.to (TL.2.1.to (KS.q (X:=XN) D7 ly TL.1.lt)));have Hv:=TL.2.2.1;have Hr:=TL.2.2.2;have P:Hid ((ZT (ZT (ZT ZZ (Q g (n*6+1) Y) (J I f)) (Q g (n*6+1+1) Y) (U E)) (Q g (n*6+1+2) Y) (Z Y 0 0)).drew.heap[A (h w)]?=T (N #[J I 0,U ⟨#[]⟩,Z Y 0 0] 47 (0,0))):=by have ZK:=(TL.2.1.ab _ _ _ _ ph (by decide) (by decide) (by decide) λZ8=>Z8).trans ph;exact ZK
   have n7:Hid ((ZT (ZT (ZT ZZ (Q g (n*6+1) Y) (J I f)) (Q g (n*6+1+1) Y) (U E)) (Q g (n*6+1+2) Y) (Z Y 0 0)).drew.heap[s]?=T (N #[J I f,U E,Z Y 0 0] 47 (0,0))):=by have ZK:=(TL.2.1.ab _ _ _ _ kb (by decide) (by decide) (by decide) λZ8=>Z8).trans kb;exact ZK
   have GS:=ae Hv;have Fk:=ae Hr;clear TL Hz Hv Hr ph kb K6 ZN R6 Fd D7;generalize World.drew (World.setCell (World.setCell (World.setCell ZZ _ _) _ _) _ _)=W7 at S7 K7 P n7 ⊢;have OS:=ae Ka.out;obtain⟨ZQ,-,-,b2,-⟩:=S7.M.R;obtain⟨Io,Ip,JE,sm⟩:=aj S7.ao g rfl;have q4:ZW W7 (Q g (n*6+4) Y)=T m1.sv:=cB (by have Z8:=S7.ao;rw[Fk.out] at Z8 ⊢;exact Z8) GS 4 (by omega) rfl;have Ki:ZX W7 (Q g (n*6+4) Y)=ZB:=by simp[World.frozen?,sm]
   have TD:=ae (S7.upd' Fk GS (j:=4) (by omega) (u:=Z (T (Q gx 0 Y)) ln cx) (m':=⟨m1.e,f,E,ls,Z (T (Q gx 0 Y)) ln cx,ZB⟩) rfl (λZ8=>by cases Z8));have Hj:Hid ((ZT W7 (Q g (n*6+4) Y) (Z (T (Q gx 0 Y)) ln cx)).heap[A (h w)]?=T (N #[J I 0,U ⟨#[]⟩,Z Y 0 0] 47 (0,0))):=(TD.2.1.ab _ _ _ _ P (by decide) (by decide) (by decide) λZ8=>Z8).trans P;have Hk:Hid ((ZT W7 (Q g (n*6+4) Y) (Z (T (Q gx 0 Y)) ln cx)).heap[s]?=T (N #[J I f,U E,Z Y 0 0] 47 (0,0))):=(TD.2.1.ab _ _ _ _ n7 (by decide) (by decide) (by decide) λZ8=>Z8).trans n7;have Fm:=ae TD.1;have Il:=ae (K7.to TD.2.1);have Jm:=ae TD.2.2.1;have IU:=ae TD.2.2.2;clear sm;go_upto_region 35 with fail;clear b2 q4 Ki TD S7 K7 P n7 GS Fk;generalize World.setCell W7 _ _=Hu at Fm Il Hj Hk ⊢;have KI:=ae (Gv OS Il);obtain⟨ZQ,-,-,b2,-⟩:=Fm.M.R;obtain⟨Io,Ip,JE,sm⟩:=aj Fm.ao g rfl;have q5:ZW Hu (Q g (n*6+5) Y)=T (ZC ZB):=cB (by have Z8:=Fm.ao;rw[IU.out] at Z8 ⊢;exact Z8) Jm 5 (by omega) rfl;have IG:ZX Hu (Q g (n*6+5) Y)=ZB:=by simp[World.frozen?,sm]
   have TD:=ae (Fm.upd' IU Jm (j:=5) (by omega) (u:=ZC ZF) (m':=⟨m1.e,f,E,ls,Z (T (Q gx 0 Y)) ln cx,ZF⟩) rfl (λ_=>(by rw[<-JO.out];exact KI)));have B:Hid ((ZT Hu (Q g (n*6+5) Y) (ZC ZF)).heap[A (h w)]?=T (N #[J I 0,U ⟨#[]⟩,Z Y 0 0] 47 (0,0))):=(TD.2.1.ab _ _ _ _ Hj (by decide) (by decide) (by decide) λZ8=>Z8).trans Hj;have ZJ:Hid ((ZT Hu (Q g (n*6+5) Y) (ZC ZF)).heap[s]?=T (N #[J I f,U E,Z Y 0 0] 47 (0,0))):=(TD.2.1.ab _ _ _ _ Hk (by decide) (by decide) (by decide) λZ8=>Z8).trans Hk;have S8:=ae TD.1;have K8:=ae (Il.to TD.2.1);clear sm;go_upto_region 36 with fail;clear b2 q5 IG TD Fm Il Hj Hk;generalize World.setCell Hu _ _=M at S8 K8 B ZJ ⊢;obtain⟨ao,co,rfl⟩:=jA S8.ror;obtain⟨q,hq⟩:∃q,q=ZU ZS:=⟨_,rfl⟩
   have HQ:=ae hq;rw[<-hq] at J0;clear hq;obtain⟨ZQ,-,-,-,b3,-⟩:=S8.M.R;rw[<-HQ.out] at b3;have O:=ae ((q9 M).alloc ly (N #[U nm] 9));have S9:=ae (S8.aa O ly);have RO:Hid ((ZV M (N #[U nm] 9)).ownsRow (A (h w0)) 9 1 (Z ao q co) q (cI (ZS.map (·.e)))):=by have Z8:=S9.ror;rw[<-HQ.out] at Z8;exact Z8
   have H7:A (h w0)<=A (h (ZV M (N #[U nm] 9))):=S9.lt;have HG:Hid (∀ZP:G,(ZV M (N #[U nm] 9)).grownBy ZP (Value.slice ao q co).ownBlock->ZP.heap[hb]?=(ZV M (N #[U nm] 9)).heap[hb]?/\ZP.heap[A (h w)]?=(ZV M (N #[U nm] 9)).heap[A (h w)]?/\ZP.heap[s]?=(ZV M (N #[U nm] 9)).heap[s]?):=λZP hg=>by
    have ex:∀(i:Nat) (cs:Array ZD) (t:ZI) (fz:Nat × Nat),(ZV M (N #[U nm] 9)).heap[i]?=T (Obj.cells cs t fz)->t≠9->ZP.heap[i]?=(ZV M (N #[U nm] 9)).heap[i]?:=λi cs t fz hi ht=>hg.block i (ai hi) λe=>by obtain⟨_,_,Is,hc⟩:=aj RO i e.symm;exact ht (au hi hc)
    exact⟨ex _ _ _ _ S9.M (by decide),ex _ _ _ _ ((O.block _ (ai B)).trans B) (by decide),ex _ _ _ _ ((O.block _ (ai ZJ)).trans ZJ) (by decide)⟩
   have Hn:Hid ((ZV M (N #[U nm] 9)).heap[A (h w)]?=T (N #[J I 0,U ⟨#[]⟩,Z Y 0 0] 47 (0,0))):=(O.block _ (ai B)).trans B;have Jo:Hid ((ZV M (N #[U nm] 9)).heap[s]?=T (N #[J I f,U E,Z Y 0 0] 47 (0,0))):=(O.block _ (ai ZJ)).trans ZJ;have hbw:¬ hb=A (h w):=λe=>by have Z8:=S8.M;unfold ShBox at Z8;rw[e] at Z8;exact absurd (au Z8 B) (by decide)
   have Bk:¬ (A (h w))=hb:=λe=>hbw e.symm;have IB:¬ hb=s:=λe=>by have Z8:=S8.M;unfold ShBox at Z8;rw[e] at Z8;exact absurd (au Z8 ZJ) (by decide)
   have JT:¬ s=hb:=λe=>IB e.symm
   go_wp2_with (first
    |(at_builtin;refine bU _ rfl (.tmp 235) (.tmp 237) 45 rfl (A (h w0)) 9 i1 (U ⟨#[]⟩) 1 16 LZ Iv Jk Jf IY rfl (by decide) (Z ao q co) q (cI (ZS.map (·.e))) (by simp[Act.eval]) RO.out (Q (A (h M)) 0 Y) 1 1 [U nm] (by simp[Act.eval]) rfl (oV M _ _) (by simp[Value.oneCell']) (by unfold maxLen;omega) (by omega) H7 ?_;intro v9 w9 H r la;have O9:=ae H;have G9:=ae r;have IJ:=ae la;have n9:=ae (HG w9 r);obtain⟨g9,c9,KF,rfl,Ja⟩:=H.2.resolve_left (λZ8=>by omega);clear Ja H r la;obtain⟨JP,-,-,-,f3,-,-,-,-,-,ff⟩:=(ShBox.ab S9.M n9.1).R;have Kx:=ff 3;obtain⟨rl,r0,r1,r2,rf⟩:=bI (n9.2.1.trans Hn);have II:=rf 0;have IP:=rf 1;have I5:=rf 2;obtain⟨pl,p0,p1,p2,pf⟩:=bI (n9.2.2.trans Jo);clear ff rf pf)
    |fail)
   have Ho:=ae (S9.ord (x:=⟨nm,3,f,E,tg,ls⟩) (w':=w9) (v:=Z (T (Q g9 0 Y)) (q+1) c9) (by rw[<-HQ.out];exact G9) (by rw[<-HQ.out];exact O9) (by rw[<-HQ.out];exact IJ));refine bp (v:=ZH #[J I f,U E,Z Y 0 0]) (by simp[results,PC,go_sem,r0,r1,r2]) rfl ?_;have Hw:=(qh w9 (Q hb 3 Y) (Z (T (Q g9 0 Y)) (q+1) c9) (A (h w)) Bk).trans (n9.2.1.trans Hn);rw[JV.out];refine⟨L1.set n ⟨m1.e,f,E,ls,Z (T (Q gx 0 Y)) ln cx,ZF⟩,Z (T (Q g 0 Y)) ZO Ht,Z (T (Q g9 0 Y)) (q+1) c9,Z (T (Q gp 0 Y)) j ZL,rfl,?_,xe JS aq Ji Ji rfl rfl rfl rfl rfl JY HI,X8.set aq rfl (λk e=>by cases e;exact Ko),?_⟩;{have x0:=Ho.1;rw[RY,RY] at x0;replace x0:=x0.ak Hw ⟨by decide,by decide,by decide,by decide⟩ D 0 (J I f);have y0:=aB Hw (j:=0) (J I f);have x1:=x0.ak y0 ⟨by decide,by decide,by decide,by decide⟩ D 1 (U E);exact x1.ak (aB y0 (j:=1) (U E)) ⟨by decide,by decide,by decide,by decide⟩ D 2 (Z Y 0 0)};{have k0:=((KW.to K8).to (KS.q (X:=XN) O ly S8.lt)).to Ho.2;exact((k0.fresh ly D 0 _).fresh ly D 1 _).fresh ly D 2 _}
  focus
   obtain⟨a,k,sv,rfl,⟨s0,s1,Kr,Kj,Ky,Hm,Hi⟩,n8⟩:=Hl
  rotate_left;focus
   obtain⟨sv,rfl,⟨s0,s1,Kr,Kj,Ky,Hm,Hi⟩,n8⟩:=Hl
  all_goals
   unfold iP;first|unfold i8|unfold ja
   dsimp only;go_upto_region 30 with fail;generalize hW:World.alloc w8 _=W9;obtain⟨O,-,-⟩:=nb1 hW;have K8:=ae ((K7.to n8).to (KS.q (X:=XN) O ly (AD D (K7.to n8).aa.size)));have Jl:=ae (ShBox.ab Hm (O.block _ (ai Hm)));have Jz:=ae (own_below Hi O ly);have B:Hid (W9.heap[A (h w)]?=T (N #[J I 0,U ⟨#[]⟩,Z Y 0 0] 47 (0,0))):=by have ZK:=(n8.ab _ _ _ _ P (by decide) (by decide) (by decide) λZ8=>Z8).trans P;exact(O.block _ (ai ZK)).trans ZK
   clear n8 Hm Hi O hW;obtain⟨ZQ,-,-,-,-,-,b5,b6,b7,b8,-⟩:=Jl.R;have hbw:¬ hb=A (h w):=λe=>by have Z8:=Jl.out;unfold ShBox at Z8;rw[e] at Z8;exact absurd (au Z8 B) (by decide)
   have Bk:¬ (A (h w))=hb:=λe=>hbw e.symm;obtain⟨rl,r0,r1,r2,rf⟩:=bI B;have II:=rf 0;have IP:=rf 1;have I5:=rf 2;clear rf;first|simp only[i8] at b5 b6 b7|simp only[ja] at b5 b6 b7
   go_wp2_with fail;have Jj:=Gu Jz.out B.out (by decide);first|refine bp (v:=ZH #[J I 6,U ⟨#[]⟩,Z a (ZU c) k]) (by simp[results,PC,go_sem,r0,r1,r2]) rfl ⟨a,k,rfl,?_⟩|refine bp (v:=ZH #[J I 7,U d,Z Y 0 0]) (by simp[results,PC,go_sem,r0,r1,r2]) rfl ⟨rfl,?_⟩
   refine⟨⟨_,_,_,_,_,(qh _ _ _ _ hbw).trans ((qh _ _ _ _ hbw).trans ((qh _ _ _ _ hbw).trans Jl)),?_⟩,?_⟩
   ·exact aH (aH (aH Jz Jj _ _) Jj _ _) Jj _ _
   ·exact((K8.fresh ly D 0 _).fresh ly D 1 _).fresh ly D 2 _
 ·have Jq:j=60:=H9;subst Jq;have hbw:¬ hb=A (h w):=λe=>by have Z8:=S5.M;unfold ShBox at Z8;rw[e] at Z8;exact absurd (au Z8 qr) (by decide)
  have Bk:¬ (A (h w))=hb:=λe=>hbw e.symm;obtain⟨rl,r0,r1,r2,rf⟩:=bI qr;have II:=rf 0;have IP:=rf 1;have I5:=rf 2;clear rf;go_wp2_with fail;refine bp (v:=ZH #[J I 7,U nm,Z Y 0 0]) (by simp[results,PC,go_sem,r0,r1,r2]) rfl ?_;have JA:=aB S5.M (j:=8) (ZC ZF);have Js:=aB JA (j:=5) (J I 7);have Jr:=aB Js (j:=6) (U nm);have Kb:=aB Jr (j:=7) (Z Y 0 0);have Ir:A (h w0)<=hb:=S5.hbB;have k8:=(((K5.to (KS.setCell (X:=XN) _ Ir (.inr λcs t fz hc=>.inr (.inr (au hc S5.M))) (ZC ZF) (j:=8))).to (KS.setCell (X:=XN) _ Ir (.inr λcs t fz hc=>.inr (.inr (au hc JA))) (J I 7) (j:=5))).to (KS.setCell (X:=XN) _ Ir (.inr λcs t fz hc=>.inr (.inr (au hc Js))) (U nm) (j:=6))).to (KS.setCell (X:=XN) _ Ir (.inr λcs t fz hc=>.inr (.inr (au hc Jr))) (Z Y 0 0) (j:=7));refine⟨rfl,⟨_,_,_,_,_,(qh _ _ _ _ hbw).trans ((qh _ _ _ _ hbw).trans ((qh _ _ _ _ hbw).trans Kb)),⟨rfl,.inl ⟨rfl,rfl⟩⟩⟩,?_⟩;exact((k8.fresh ly D 0 _).fresh ly D 1 _).fresh ly D 2 _
end
section
variable {w0:G}{S:Spc}{a0 a1:Option Addr}{c0 c1 hb:Nat}
theorem uK{making:List ByteArray}{made:List Ent}(Z8:fx L making made)(g:∀m∈L,m.e≠nm)(o:bc made nm=Y)(h1:atL making nm=Y)(b:m'.e=nm)(p:m'.done=ZF)(q:x.e=nm)(i:m'.E=(dK x).E)(s:m'.B=(dK x).B)(r:m'.V=x.D)(l:m'.sv=Z Y 0 0)(n:Nat):fx ((L++[gj nm]).set (ZU L) m') making (made++[x])/\LExt n L ((L++[gj nm]).set (ZU L) m'):=by
 have f:(L++[gj nm])[ZU L]?=T (gj nm):=by rw[KL ly,RV];rfl
 refine⟨xe (rL Z8 g (m:=gj nm) rfl rfl) f rfl b q p i s r (fi o) h1,(LExt.add n L (m:=gj nm) rfl).set f b λj e=>?_⟩;rw[l] at e;cases e
theorem Dy (C:oR w0 S a0 a1):∀n,mR w0 S hb (Z a0 S.n0 c0) (Z a1 S.n1 c1) n:=by
 have s:∀n,(∀m,n=m+1->mR w0 S hb (Z a0 S.n0 c0) (Z a1 S.n1 c1) m)->mR w0 S hb (Z a0 S.n0 c0) (Z a1 S.n1 c1) n:=by
  intro n ZZ making made L md or st w nm D Z8 hrel H f u hn;have hmade:ZU made<=50000:=by unfold eX at f;omega
  have b:ZU L<=100000:=by have:=hrel.len;omega
  rw[jt];unfold dv;cases h0:bc made nm with
  |some e =>obtain⟨k,m,f1,B,z,E,ZP⟩:=Fx hrel h0;refine(Dw w nm Z8 b k m f1 B z).mono ?_;rintro r w' ⟨rfl,p,g⟩;exact⟨L,md,or,st,by rw[E,ZP],p,hrel,LExt.refl _ _,g⟩
  |none =>
   cases h1:atL making nm with
   |some i =>
    obtain⟨k,m,f1,B,z,E⟩:=Fy hrel h1;have ZS:=u nm E;cases h2:atI (nm1 S.f1) S.n1 nm with
    |none=>rw[h2] at ZS;cases ZS
    |some tg=>exact vS C w nm Z8 b (by omega) k m f1 B z tg i h2 h1
   |none =>
    obtain⟨q,y⟩:=AH hrel h0 h1;dsimp only;unfold fl;cases h2:atI (nm0 S.f0) S.n0 nm with
    |some i =>refine(lR.1 C w nm Z8 b (by omega) q (nZ C.ok h2) 0 (S.f0 i).B (.inr ⟨i,h2,rfl,rfl⟩) 1 (S.f0 i).B).mono ?_;rintro r w' ⟨o,l,rfl,p,g⟩;have j:=uK hrel y h0 h1 (m':=⟨nm,0,(S.f0 i).B,[],Z Y 0 0,ZF⟩) (x:=⟨nm,1,0,(S.f0 i).B,0,[]⟩) rfl rfl rfl rfl rfl rfl rfl (A (h w));exact⟨_,o,l,st,rfl,p,j.1,j.2,g⟩
    |none =>
     cases h3:atI (nm1 S.f1) S.n1 nm with
     |some t =>
      cases n with
      |zero=>exact lR.2 C w nm Z8 b q h1 t h3 _ (.inl ⟨by omega,rfl⟩)
      |succ m=>exact lR.2 C w nm Z8 b q h1 t h3 _ (.inr ⟨m,D,ZZ m rfl,hrel,H,f,u,h0,rfl⟩)
     |none =>refine(lR.1 C w nm Z8 b (by omega) q h3 4 nm (.inl ⟨h2,rfl,rfl⟩) 2 ⟨#[]⟩).mono ?_;rintro r w' ⟨o,l,rfl,p,g⟩;have j:=uK hrel y h0 h1 (m':=⟨nm,4,nm,[],Z Y 0 0,ZF⟩) (x:=⟨nm,2,0,⟨#[]⟩,0,[]⟩) rfl rfl rfl rfl rfl rfl rfl (A (h w));exact⟨_,o,l,st,rfl,p,j.1,j.2,g⟩
 intro n;induction n with
 |zero=>exact s 0 λm e=>by omega
 |succ n ZQ=>exact s (n+1) λm e=>by cases e;exact ZQ
end
