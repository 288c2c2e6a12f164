import Derived.Test.YtkdimgejdocbbaaGreatDoorXE
import Derived.WalkSmall
set_option maxRecDepth 1000000
set_option maxHeartbeats 8000000
open Go.Addr renaming mk->J
open Go.Value renaming slice->Y,string->U,int->N,bool->QA,agg->QE
open Option renaming none->Z,some->Q
open Go.Obj renaming cells->T
open Go.IntKind renaming i64->I
open Go renaming World->E,Value->QB,TypeId->QF
open Bool renaming false->D,true->QC
open Go.Ending renaming returned->QD
namespace Go.Proofs.YtkdimgejdocbbaaGreatDoor.Vp
open RowKit
theorem tA:∀ (L:List SM) (k j:Nat) (m b:SM) (u:QB),L[k]?=Q m->j<6->smV b=(smV m).set j u->(L.flatMap smV).set (k*6+j) u=(L.set k b).flatMap smV
 | [],k,j,m,b,u,h,_,_=>by simp at h
 | a :: L,0,j,m,b,u,h,hj,he=>by simp only[List.getElem?_cons_zero,EQ] at h;subst h;simp only[I8,List.set_cons_zero,LV,C9];rw[List.set_append_left _ _ (by rw[mG];exact hj),he]
 | a :: L,k+1,j,m,b,u,h,hj,he=>by simp only[List.getElem?_cons_succ] at h;simp only[I8,List.set_cons_succ];rw[MC _ _ (by rw[mG];omega),mG,show(k+1)*6+j - 6=k*6+j by omega,tA L k j m b u h hj he]
theorem xz {w:E}{b size n g d j:Nat}{e:QF}{i:List QB}(h:w.ownsRow b e size (Y (Q (J g 0 Z)) n d) n i)(u:QB):(w.setCell (J g j Z) u).ownsRow b e size (Y (Q (J g 0 Z)) n d) n (i.set j u):=by
 refine⟨by rw[IS];exact h.1,?_⟩;rcases h.2 with ⟨f,h0⟩ | ⟨g',cap',k,f,hb,m,h1,h2,l,o⟩
 ·simp at f
 ·simp only[CN,EQ,KJ] at f
  obtain⟨⟨rfl,-⟩,-,rfl⟩:=f;refine .inr ⟨g,d,k.setIfInBounds j u,rfl,hb,aw m u,h1,h2,by simpa using l,?_⟩;rw[JM,NK,o]
section
variable {w0 w w':E}{hb:Nat}{s0 s1 md or st:QB}{making:List ByteArray}{made:List Ent}{L:List SM}
theorem SI.upd {g i k j:Nat}{m d:SM}{u:QB}(h:SI w0 hb s0 s1 w making made L (Y (Q (J g 0 Z)) L.length i) or st)(H:L[k]?=Q m)(QQ:j<6)(G:smV d=(smV m).set j u)(QP:d.done=QC->w.ownsRow w0.heap.size 242 3 d.sv d.seen.length (eY d.seen)):SI w0 hb s0 s1 (w.setCell (J g (k*6+j) Z) u) making made (L.set k d) (Y (Q (J g 0 Z)) (L.set k d).length i) or st/\KS w0.heap.size XN w (w.setCell (J g (k*6+j) Z) u):=by
 obtain⟨l,hgl,cs,q⟩:=af h.rmd g rfl
 have b:∀ {size n:Nat} {p:QF} {C:QB} {z:List QB},w.ownsRow w0.heap.size p size C n z->239≠p->(w.setCell (J g (k*6+j) Z) u).ownsRow w0.heap.size p size C n z:=fun A B=>az A (fun e=>by
  obtain⟨_,_,y,f⟩:=af A g e
  exact B (ah q f)) _ _
 have r:(L.set k d).length=L.length:=IS;refine⟨⟨h.bel.setCell l u,h.hbB,?_,?_,b h.ror (by decide),b h.rst (by decide),h.apart,fun x o s=>?_⟩,KS.setCell w l (.inr fun y t fz f=>.inr (.inl (ah f q))) u⟩
 ·rw[r]
  exact h.box.blk (qh _ _ _ _ fun e=>by
   have QO:hb=g:=e
   exact absurd (ah h.box (QO ▸ q)) (by decide))
 ·rw[r,<-tA L k j m d u H QQ G]
  exact xz h.rmd u
 ·rcases JG o with o | rfl
  ·exact b (h.seen x o s) (by decide)
  ·exact b (QP s) (by decide)
theorem SI.addL {m:SM}{v:QB}(h:SI w0 hb s0 s1 w making made L md or st)(QO:w.grownBy w' md.ownBlock)(C:w'.ownsRow w0.heap.size 239 6 v (L.length+1) (L.flatMap smV++smV m))(QM:m.done=D):SI w0 hb s0 s1 (w'.setCell (J hb 2 Z) v) making made (L++[m]) v or st/\KS w0.heap.size XN w (w'.setCell (J hb 2 Z) v):=by
 have z:=af h.rmd;have G:KS w0.heap.size XN w w':=KS.of_grown QO h.lt fun j K=>by obtain⟨h1,_,g,h2⟩:=z j K;exact⟨h1,.inr fun g t fz q=>.inr (.inl (ah q h2))⟩
 have o:∀ (i:Nat) (g:Array QB) (t:QF) (fz:Nat × Nat),w.heap[i]?=Q (Obj.cells g t fz)->t≠239->w'.heap[i]?=w.heap[i]?:=fun i g t fz hi M=>QO.block i (ai hi) fun e=>by obtain⟨_,_,u,h2⟩:=z i e.symm;exact M (ah hi h2)
 have b:ShBox w' hb s0 s1 md or st 0 ⟨#[]⟩ (Y Z 0 0) D:=h.box.blk (o _ _ _ _ h.box (by decide));have d:∀ {size n:Nat} {s:QF} {QN:QB} {B:List QB},w.ownsRow w0.heap.size s size QN n B->s≠239->132≠s->(w'.setCell (J hb 2 Z) v).ownsRow w0.heap.size s size QN n B:=fun y QP QQ=>by
  have H:=bI (w':=w') y fun k f=>by obtain⟨_,_,g,q⟩:=af y k f;exact o _ _ _ _ q QP
  exact az H (fun e=>by
   obtain⟨_,_,u,p⟩:=af H hb e
   exact QQ (ah b p)) _ _
 have A:(w'.setCell (J hb 2 Z) v).ownsRow w0.heap.size 239 6 v (L.length+1) (L.flatMap smV++smV m):=az C (fun e=>by
  obtain⟨_,_,u,p⟩:=af C hb e
  exact absurd (ah b p) (by decide)) _ _
 have f:KS w0.heap.size XN w' (w'.setCell (J hb 2 Z) v):=KS.setCell w' h.hbB (.inr fun g t fz q=>.inr (.inr (ah q b))) v;refine⟨⟨h.bel.trans (G.to f).below,h.hbB,aw b v,(by rw[cM,p7,IB,List.flatMap_singleton];exact A),d h.ror (by decide) (by decide),d h.rst (by decide) (by decide),h.apart,fun x l r=>?_⟩,G.to f⟩;rcases kP.1 l with l | l
 ·exact d (h.seen x l r) (by decide) (by decide)
 ·rw[j3.1 l,QM] at r
  cases r
theorem SI.ord {x:Ent}{v:QB}(h:SI w0 hb s0 s1 w making made L md or st)(z:w.grownBy w' or.ownBlock)(QP:w'.ownsRow w0.heap.size 9 1 v (made.length+1) (bq (made.map (·.name))++[U x.name]))(B:v.ownBlock=or.ownBlock∨v.ownBlock=Q w.heap.size):SI w0 hb s0 s1 (w'.setCell (J hb 3 Z) v) making (made++[x]) L md v st/\KS w0.heap.size XN w (w'.setCell (J hb 3 Z) v):=by
 have y:=af h.ror;have C:KS w0.heap.size XN w w':=KS.of_grown z h.lt fun j M=>by obtain⟨h1,_,g,h2⟩:=y j M;exact⟨h1,.inr fun g t fz l=>.inl (ah l h2)⟩
 have m:∀ (i:Nat) (g:Array QB) (t:QF) (fz:Nat × Nat),w.heap[i]?=Q (Obj.cells g t fz)->t≠9->w'.heap[i]?=w.heap[i]?:=fun i g t fz hi QM=>z.block i (ai hi) fun e=>by obtain⟨_,_,r,h2⟩:=y i e.symm;exact QM (ah hi h2)
 have b:ShBox w' hb s0 s1 md or st 0 ⟨#[]⟩ (Y Z 0 0) D:=h.box.blk (m _ _ _ _ h.box (by decide));have q:∀ {size n:Nat} {s:QF} {QN:QB} {QQ:List QB},w.ownsRow w0.heap.size s size QN n QQ->s≠9->132≠s->(w'.setCell (J hb 3 Z) v).ownsRow w0.heap.size s size QN n QQ:=fun u QO H=>by
  have o:=bI (w':=w') u fun k d=>by obtain⟨_,_,g,l⟩:=af u k d;exact m _ _ _ _ l QO
  exact az o (fun e=>by
   obtain⟨_,_,r,f⟩:=af o hb e
   exact H (ah b f)) _ _
 have A:(w'.setCell (J hb 3 Z) v).ownsRow w0.heap.size 9 1 v (made.length+1) (bq (made.map (·.name))++[U x.name]):=az QP (fun e=>by
  obtain⟨_,_,r,f⟩:=af QP hb e
  exact absurd (ah b f) (by decide)) _ _
 have d:KS w0.heap.size XN w' (w'.setCell (J hb 3 Z) v):=KS.setCell w' h.hbB (.inr fun g t fz l=>.inr (.inr (ah l b))) v;refine⟨⟨h.bel.trans (C.to d).below,h.hbB,aw b v,q h.rmd (by decide) (by decide),(by rw[cM,p7];simpa[bq] using A),?_,fun k p=>?_,fun x O G=>q (h.seen x O G) (by decide) (by decide)⟩,C.to d⟩
 ·have o:w'.ownsRow w0.heap.size 9 1 st making.length (bq making):=bI h.rst fun k d=>by
   obtain⟨_,K,g,l⟩:=af h.rst k d;exact z.block k K fun e=>h.apart k e.symm d
  exact az o (fun e=>by
   obtain⟨_,_,r,f⟩:=af o hb e
   exact absurd (ah b f) (by decide)) _ _
 ·intro e
  rcases B with a | a
  ·exact h.apart k (by rw[<-a];exact p) e
  ·rw[a] at p
   cases p
   have:=(af h.rst _ e).2.1;omega
theorem SI.push {nm:ByteArray}{v:QB}(h:SI w0 hb s0 s1 w making made L md or st)(z:w.grownBy w' st.ownBlock)(QP:w'.ownsRow w0.heap.size 9 1 v (making.length+1) (bq making++[U nm]))(B:v.ownBlock=st.ownBlock∨v.ownBlock=Q w.heap.size):SI w0 hb s0 s1 (w'.setCell (J hb 4 Z) v) (making++[nm]) made L md or v/\KS w0.heap.size XN w (w'.setCell (J hb 4 Z) v):=by
 have y:=af h.rst;have C:KS w0.heap.size XN w w':=KS.of_grown z h.lt fun j M=>by obtain⟨h1,_,g,h2⟩:=y j M;exact⟨h1,.inr fun g t fz l=>.inl (ah l h2)⟩
 have m:∀ (i:Nat) (g:Array QB) (t:QF) (fz:Nat × Nat),w.heap[i]?=Q (Obj.cells g t fz)->t≠9->w'.heap[i]?=w.heap[i]?:=fun i g t fz hi QM=>z.block i (ai hi) fun e=>by obtain⟨_,_,q,h2⟩:=y i e.symm;exact QM (ah hi h2)
 have b:ShBox w' hb s0 s1 md or st 0 ⟨#[]⟩ (Y Z 0 0) D:=h.box.blk (m _ _ _ _ h.box (by decide));have p:∀ {size n:Nat} {r:QF} {QN:QB} {QQ:List QB},w.ownsRow w0.heap.size r size QN n QQ->r≠9->132≠r->(w'.setCell (J hb 4 Z) v).ownsRow w0.heap.size r size QN n QQ:=fun s QO H=>by
  have o:=bI (w':=w') s fun k d=>by obtain⟨_,_,g,l⟩:=af s k d;exact m _ _ _ _ l QO
  exact az o (fun e=>by
   obtain⟨_,_,q,f⟩:=af o hb e
   exact H (ah b f)) _ _
 have A:(w'.setCell (J hb 4 Z) v).ownsRow w0.heap.size 9 1 v (making.length+1) (bq making++[U nm]):=az QP (fun e=>by
  obtain⟨_,_,q,f⟩:=af QP hb e
  exact absurd (ah b f) (by decide)) _ _
 have d:KS w0.heap.size XN w' (w'.setCell (J hb 4 Z) v):=KS.setCell w' h.hbB (.inr fun g t fz l=>.inr (.inr (ah l b))) v;refine⟨⟨h.bel.trans (C.to d).below,h.hbB,aw b v,p h.rmd (by decide) (by decide),?_,(by rw[cM,p7];simpa[bq] using A),fun k u=>?_,fun x O G=>p (h.seen x O G) (by decide) (by decide)⟩,C.to d⟩
 ·have o:w'.ownsRow w0.heap.size 9 1 or made.length (bq (made.map (·.name))):=bI h.ror fun k d=>by
   obtain⟨_,K,g,l⟩:=af h.ror k d;exact z.block k K fun e=>h.apart k d e.symm
  exact az o (fun e=>by
   obtain⟨_,_,q,f⟩:=af o hb e
   exact absurd (ah b f) (by decide)) _ _
 ·intro e
  rcases B with a | a
  ·exact h.apart k u (by rw[<-a];exact e)
  ·rw[a] at e
   cases e
   have:=(af h.ror _ u).2.1;omega
theorem SI.pop {nm:ByteArray}{g d:Nat}(h:SI w0 hb s0 s1 w (making++[nm]) made L md or (Y (Q (J g 0 Z)) (making.length+1) d)):SI w0 hb s0 s1 (w.setCell (J hb 4 Z) (Y (Q (J g 0 Z)) making.length d)) making made L md or (Y (Q (J g 0 Z)) making.length d)/\KS w0.heap.size XN w (w.setCell (J hb 4 Z) (Y (Q (J g 0 Z)) making.length d)):=by
 have b:∀ {size n:Nat} {i:QF} {m:QB} {j:List QB},w.ownsRow w0.heap.size i size m n j->132≠i->(w.setCell (J hb 4 Z) (Y (Q (J g 0 Z)) making.length d)).ownsRow w0.heap.size i size m n j:=fun f l=>az f (fun e=>by
  obtain⟨_,_,cs2,k⟩:=af f hb e
  exact l (ah h.box k)) _ _
 have hst:=h.rst;rw[cM,p7] at hst;refine⟨⟨h.bel.setCell h.hbB _,h.hbB,aw h.box _,b h.rmd (by decide),b h.ror (by decide),b (ownsRow_pop (last:=[U nm]) (by simp[bq]) (by simpa[bq] using hst)) (by decide),h.apart,fun x p o=>b (h.seen x p o) (by decide)⟩,KS.setCell w h.hbB (.inr fun cs t fz q=>.inr (.inr (ah q h.box))) _⟩
end
theorem vu {L:List SM}(h:L.Pairwise fun m b=>m.name≠b.name){i j:Nat}{m b:SM}(hi:L[i]?=Q m)(p:L[j]?=Q b)(e:m.name=b.name):i=j:=by
 rw[DN] at h;obtain⟨g,k⟩:=kS.1 hi;obtain⟨f,d⟩:=kS.1 p;rcases LR i j with o | n | l
 ·exact absurd (by rw[k,d];exact e) (h i j g f o)
 ·exact n
 ·exact absurd (by rw[k,d];exact e.symm) (h j i f g l)
theorem vv {L:List SM}(i:L.Pairwise fun m l=>m.name≠l.name){m:SM}(f:m∈L){nm:ByteArray}(e:m.name=nm):∃ k,fI L nm=Q k/\L[k]?=Q m:=by
 obtain⟨k,b⟩:=I7 f;refine⟨k,tr b (by rw[e];simp) fun j g hj d=>?_,b⟩;cases h:(g.name.toList == nm.toList) with
 | false=>rfl
 | true =>have:=vu i d b (by rw[bytes_beq h,e]);omega
section
variable {L:List SM}{making:List ByteArray}{made:List Ent}{nm:ByteArray}
theorem DG (h:fE L making made){e:Ent}(b:aK made nm=Q e):∃ k m,fI L nm=Q k/\L[k]?=Q m/\m.done=QC/\m.code=(cR e).code/\m.text=(cR e).text:=by obtain⟨h1,h2⟩:=fB b;obtain⟨m,f,l,i,n,g,_⟩:=h.got e h1;obtain⟨k,d,j⟩:=vv h.nod f (l.trans h2);exact⟨k,m,d,j,i,n,g⟩
theorem DJ (h:fE L making made){i:Nat}(hi:atL making nm=Q i):∃ k m,fI L nm=Q k/\L[k]?=Q m/\m.done=D/\nm∈making:=by
 have d:=hi;unfold atL at d;obtain⟨f,h1,_⟩:=JQ.1 d;have b:nm∈making:=by rw[<-bytes_beq h1];exact gz f
 obtain⟨m,j,o,l⟩:=h.mkg nm b;obtain⟨k,g,n⟩:=vv h.nod j o;exact⟨k,m,g,n,l,b⟩
theorem zb (h:fE L making made)(i:aK made nm=Z)(h1:atL making nm=Z):fI L nm=Z/\∀ m∈L,m.name≠nm:=by
 have b:∀ m∈L,m.name≠nm:=fun m d e=>by
  rcases h.all m d with ⟨x,g,f⟩ | h2
  ·exact dd i x g (f.trans e)
  ·exact jd h1 _ h2 e
 refine⟨vj fun j m hj d=>?_,b⟩;cases h2:(m.name.toList == nm.toList) with
 | false=>rfl
 | true=>exact absurd (bytes_beq h2) (b m (D0 d))
theorem qu (h:fE L making made)(i:∀ m∈L,m.name≠nm){m:SM}(g:m.name=nm)(j:m.done=D):fE (L++[m]) (making++[nm]) made:=by
 refine⟨?_,by simp[h.len];omega,fun x k=>?_,fun t f=>?_,fun y d=>?_⟩
 ·rw[IX]
  exact⟨h.nod,LL _ _,fun a l b hb=>by rw[j3.1 hb,g];exact i a l⟩
 ·obtain⟨y,d,r⟩:=h.got x k
  exact⟨y,II _ d,r⟩
 ·rcases kP.1 f with f | f
  ·obtain⟨y,d,r⟩:=h.mkg t f
   exact⟨y,II _ d,r⟩
  ·exact⟨m,I6 _ (j3.2 rfl),by rw[g,j3.1 f],j⟩
 ·rcases kP.1 d with d | d
  ·exact(h.all y d).imp id fun h=>II _ h
  ·rw[j3.1 d,g]
   exact .inr (I6 _ (j3.2 rfl))
theorem vw {f:List Ent}{k:Nat}{m b:SM}{x:Ent}(h:fE L (making++[nm]) f)(A:L[k]?=Q m)(QO:m.name=nm)(n:b.name=nm)(s:x.name=nm)(M:b.done=QC)(QM:b.code=(cR x).code)(K:b.text=(cR x).text)(QN:b.seen=x.looks)(O:∀ y∈f,y.name≠nm)(h1:atL making nm=Z):fE (L.set k b) making (f++[x]):=by
 have H:=(kS.1 A).1;have C:=(kS.1 A).2;have g:∀ y∈L,y.name≠nm->y∈L.set k b:=fun y d QP=>by
  obtain⟨i,hi⟩:=I7 d;refine D0 (i:=i) ?_;rw[List.getElem?_set_ne fun e=>?_]
  ·exact hi
  ·subst e
   rw[A] at hi;cases hi
   exact QP QO
 have u:b∈L.set k b:=D0 (L8 H);refine⟨?_,by rw[IS,h.len];simp;omega,fun y d=>?_,fun t p=>?_,fun y d=>?_⟩
 ·have o:=h.nod
  rw[DN] at o ⊢;have q:∀ (i:Nat) (hi:i<(L.set k b).length),(L.set k b)[i].name=(L[i]'(by simpa using hi)).name:=fun i hi=>by
   rw[List.getElem_set];split
   ·rename_i e;subst e;rw[C,QO,n]
   ·rfl
  intro i j hi B QQ;rw[q i hi,q j B];exact o i j (by simpa using hi) (by simpa using B) QQ
 ·rcases kP.1 d with d | d
  ·obtain⟨z,hz,l,r⟩:=h.got y d
   exact⟨z,g z hz (by rw[l];exact O y d),l,r⟩
  ·rw[j3.1 d]
   exact⟨b,u,by rw[n,s],M,QM,K,QN⟩
 ·obtain⟨z,hz,l,r⟩:=h.mkg t (II _ p)
  exact⟨z,g z hz (by rw[l];exact jd h1 t p),l,r⟩
 ·rcases JG d with G | rfl
  ·rcases h.all y G with ⟨z,hz,e⟩ | h2
   ·exact .inl ⟨z,II _ hz,e⟩
   ·rcases kP.1 h2 with h2 | h2
    ·exact .inr h2
    ·exact .inl ⟨x,I6 _ (j3.2 rfl),by rw[s,j3.1 h2]⟩
  ·exact .inl ⟨x,I6 _ (j3.2 rfl),by rw[s,n]⟩
end
theorem uv {S:Spc}(h:SpcOk S){nm:ByteArray}{i:Nat}(hi:atI (nm0 S.f0) S.n0 nm=Q i):atI (nm1 S.f1) S.n1 nm=Z:=by
 have b:=h.chk;unfold aU at b;split at b;· omega
 split at b;· omega
 split at b;· omega
 split at b;· omega
 split at b;· omega
 split at b;· omega
 rename_i d;obtain⟨h1,h2⟩:=aT hi;have:=gG (Bool.eq_false_iff.2 d) h1;rw[h2] at this;exact tm this
end Go.Proofs.YtkdimgejdocbbaaGreatDoor.Vp
namespace Go.Proofs.YtkdimgejdocbbaaGreatDoor.Vp
open RowKit Ca
section
variable {w0:E}{S:Spc}{a0 a1:Option Addr}{c0 c1 hb:Nat}{md or st:QB}{making:List ByteArray}{made:List Ent}{L:List SM}
theorem Br (w:E)(nm:ByteArray)(h:SI w0 hb (Y a0 S.n0 c0) (Y a1 S.n1 c1) w making made L md or st)(s:L.length<=100000)(k:Nat)(m:SM)(h1:fI L nm=Q k)(h2:L[k]?=Q m)(x:m.done=QC):Calls Tryz.prog 167 #[.pointer (Q (J hb 0 Z)),U nm] w fun e w'=>e=QD (QE #[N I m.code,U m.text,Y Z 0 0])/\SI w0 hb (Y a0 S.n0 c0) (Y a1 S.n1 c1) w' making made L md or st/\KS w0.heap.size XN w w':=by
 have q:=ae ((Qs w).alloc lr (T #[N I 0,U ⟨#[]⟩,Y Z 0 0] 41));have kr:Hid ((w.alloc (T #[N I 0,U ⟨#[]⟩,Y Z 0 0] 41)).heap[w.heap.size]?=Q (T #[N I 0,U ⟨#[]⟩,Y Z 0 0] 41 (0,0))):=eL _ _;have d:=ae (h.below q lr);have b:w0.heap.size<=w.heap.size:=h.lt;have hkl:=(kS.1 h2).1;obtain⟨g,cap,cur,rfl,-⟩:=h.rmd.2.resolve_left (fun h=>by omega);have A:dk (fI L nm)=(k:Int):=by rw[h1];rfl
 have o:=ae h2;obtain⟨n,t⟩:∃ n,n=L.length:=⟨_,rfl⟩
 have B:=ae t;have hkn:k<n:=by omega
 clear h h1 h2 t;go_enter Tryz.func167,Tryz.ntmps167;go_wp2_with fail;generalize w.alloc (T #[N I 0,U ⟨#[]⟩,Y Z 0 0] 41)=f at q kr d ⊢;refine(gJ f nm d s).mono ?_;rintro e w1 ⟨rfl,p⟩;rw[p];clear p;rw[A];obtain⟨hbl,-,-,QQ,-⟩:=d.box.facts;have d1:f.cell? (J g (k*6+1) Z)=Q (N I m.code):=cG d.rmd o 1 (by omega) rfl;have d2:f.cell? (J g (k*6+2) Z)=Q (U m.text):=cG d.rmd o 2 (by omega) rfl;have d3:f.cell? (J g (k*6+3) Z)=Q (Y Z 0 0):=cG d.rmd o 3 (by omega) rfl;have d5:f.cell? (J g (k*6+5) Z)=Q (QA QC):=by have:=cG d.rmd o.out 5 (by omega) (u:=QA m.done) rfl;rw[x] at this;exact this
 rw[<-B.out] at QQ;obtain⟨rl,r0,r1,C,l⟩:=aZ kr;have rf0:=l 0;have rf1:=l 1;have rf2:=l 2;have hI0:(0:Int)<=(k:Int):=by omega
 have hI1:(k:Int)<(n:Int):=by omega
 clear l;go_wp2_with fail;refine bp (v:=QE #[N I m.code,U m.text,Y Z 0 0]) (by simp[results,Tryz.results167,go_sem,r0,r1,C]) rfl ⟨rfl,?_,?_⟩
 ·have z:=d.setOff kr.out ⟨by decide,by decide,by decide,by decide⟩ b 0 (N I m.code)
  have r:=aw kr.out (j:=0) (N I m.code);have y:=z.setOff r ⟨by decide,by decide,by decide,by decide⟩ b 1 (U m.text);exact y.setOff (aw r (j:=1) (U m.text)) ⟨by decide,by decide,by decide,by decide⟩ b 2 (Y Z 0 0)
 ·refine((((KS.of_below (X:=XN) q lr b).trans (KS.setCell (X:=fun i=>i=w.heap.size) _ b (Or.inl rfl) _) ?_).trans (KS.setCell (X:=fun i=>i=w.heap.size) _ b (Or.inl rfl) _) ?_).trans (KS.setCell (X:=fun i=>i=w.heap.size) _ b (Or.inl rfl) _) ?_)
  all_goals
   intro i hi h;have e2:i=w.heap.size:=h;omega
theorem nO {w:E}{b g d n:Nat}{M:List ByteArray}(h:w.ownsRow b 9 1 (Y (Q (J g 0 Z)) n d) n (bq M)){i:Nat}{t:ByteArray}(f:M[i]?=Q t):w.cell? (J g i Z)=Q (U t):=by have h1:=h.cells (g:=g) rfl i (U t) (by rw[bq,ID,f];rfl);rw[addr_add,C9] at h1;exact h1
theorem uw (C:kX w0 S a0 a1)(w:E)(nm:ByteArray)(h:SI w0 hb (Y a0 S.n0 c0) (Y a1 S.n1 c1) w making made L md or st)(Fw:L.length<=100000)(Fj:making.length<=60)(k:Nat)(m:SM)(h1:fI L nm=Q k)(h2:L[k]?=Q m)(hd:m.done=D)(tg s:Nat)(ht:atI (nm1 S.f1) S.n1 nm=Q tg)(hi:atL making nm=Q s):Calls Tryz.prog 167 #[.pointer (Q (J hb 0 Z)),U nm] w fun e w'=>jg w0 hb (Y a0 S.n0 c0) (Y a1 S.n1 c1) making L w e w' (.inr (.inl (making.drop s))):=by
 obtain⟨i1,FC,FF,Fy,Fu⟩:=eZ gL;have A0:=ae ((Qs w).alloc lr (T #[N I 0,U ⟨#[]⟩,Y Z 0 0] 41));have kr:Hid ((w.alloc (T #[N I 0,U ⟨#[]⟩,Y Z 0 0] 41)).heap[w.heap.size]?=Q (T #[N I 0,U ⟨#[]⟩,Y Z 0 0] 41 (0,0))):=eL _ _;have R:=ae (h.below A0 lr);have l:w0.heap.size<=w.heap.size:=h.lt;have hkl:=(kS.1 h2).1;obtain⟨g,Fl,cur,rfl,-⟩:=h.rmd.2.resolve_left (fun h=>by omega);have e1:dk (fI L nm)=(k:Int):=by rw[h1];rfl
 have O:dk (atI (nm1 S.f1) S.n1 nm)=(tg:Int):=by rw[ht];rfl
 have Fx:s<making.length/\(∃ x,making[s]?=Q x/\(x.toList == nm.toList)=QC)/\∀ (j:Nat) (y:ByteArray),j<s->making[j]?=Q y->(y.toList == nm.toList)=D:=by unfold atL at hi;obtain⟨q1,q2,q3⟩:=JQ.1 hi;refine⟨q1,⟨_,gq q1,q2⟩,fun j y hj V=>?_⟩;have:=q3 j hj;rw[J8] at this;rw[(kS.1 V).2] at this;exact this
 obtain⟨DA,⟨xi,sm,n7⟩,aq⟩:=Fx;obtain⟨QJ,f,cus,rfl,n9⟩:=h.rst.2.resolve_left (fun h=>by omega);have Fz:making.length<=f:=n9.2.2.1;have H2:=ae h2;have FG:=ae sm;have Fm:=ae aq;have FI:=ae n7;obtain⟨n,hn⟩:∃ n,n=L.length:=⟨_,rfl⟩
 have HN:=ae hn;have hkn:k<n:=by omega
 obtain⟨d,fd⟩:∃ d,d=making.length:=⟨_,rfl⟩
 have B:=ae fd;have CC:=ae C;have hsm:=C.ok.small;rw[<-fd] at DA Fj Fz;clear h h1 h2 hn C ht hi n9 fd sm n7 aq;go_enter Tryz.func167,Tryz.ntmps167;go_wp2_with fail;generalize w.alloc (T #[N I 0,U ⟨#[]⟩,Y Z 0 0] 41)=W0 at A0 kr R ⊢;refine(gJ W0 nm R Fw).mono ?_;rintro e w1 ⟨rfl,n8⟩;rw[n8];clear n8;rw[e1];obtain⟨QL,b0,b1,b2,-⟩:=R.box.facts;have d5:W0.cell? (J g (k*6+5) Z)=Q (QA D):=by have:=cG R.rmd H2.out 5 (by omega) (u:=QA m.done) rfl;rw[hd] at this;exact this
 rw[<-HN.out] at b2;have hI0:(0:Int)<=(k:Int):=by omega
 have hI1:(k:Int)<(n:Int):=by omega
 go_wp2_with fail;refine(fa a0 S.n0 c0 a1 S.n1 c1 S.f0 nm W0 (by omega) (CC.src.below R.bel lr)).mono ?_;rintro e w1 ⟨rfl,z⟩;have S1:=ae (R.below z lr);have qr:Hid (w1.heap[w.heap.size]?=_):=(z.block _ (ai kr)).trans kr;have K1:=ae (A0.trans (z.mono A0.size));clear z b0 b1 b2 QL d5;obtain⟨QL,b0,b1,-⟩:=S1.box.facts;go_wp2_with fail;refine(fb a0 S.n0 c0 a1 S.n1 c1 S.f1 nm w1 (by omega) (CC.tgt.below S1.bel lr)).mono ?_;rintro e H ⟨he,z⟩;rw[O] at he;subst he;have r:=ae (S1.below z lr);have mv:Hid (H.heap[w.heap.size]?=_):=(z.block _ (ai qr)).trans qr;have K2:=ae (K1.trans (z.mono K1.size));clear z b0 b1 QL;obtain⟨QL,-,-,-,-,b4,b5,b6,b7,b8,bf⟩:=r.box.facts;have Fo:=bf 5;have Fq:=bf 6;have Fs:=bf 7;have FH:=bf 8;rw[<-B.out] at b4;clear bf;have hT0:(0:Int)<=(tg:Int):=by omega
 go_wp2_with fail;go_loop [9] (fun i=>∃ j:Nat,j<=s/\i=N I j) (fun i=>s - (intOf i).toNat);case atStart=>exact⟨0,by omega,rfl⟩
 case round =>
  obtain⟨j,hj,rfl⟩:=hrel;obtain⟨y,V⟩:∃ y,making[j]?=Q y:=⟨_,gq (by have:=B.out;omega)⟩
  have dj:H.cell? (J QJ j Z)=Q (U y):=nO r.rst V;have hjm:(j:Int)<(d:Int):=by omega
  have HY:=ae V;clear V;by_cases Fv:j<s
  ·have Ft:=Fm.out j y Fv HY.out
   have HNE:=ae Ft;go_wp2;exact⟨⟨j+1,by omega,by go_num⟩,by simp[intOf];omega⟩
  ·obtain rfl:j=s:=by omega
   have hye:(y.toList == nm.toList)=QC:=by
    have:=HY.out;rw[FG.out] at this;cases this
    exact FI
   go_upto_region 22 with fail;clear dj b4 b5 b6 b7 b8 Fo Fq Fs FH;have th:=ae (aw r.box (j:=8) (QA QC))
   have R3:Hid ((H.setCell (J hb 8 Z) (QA QC)).ownsRow w0.heap.size 9 1 (Y (Q (J QJ 0 Z)) making.length f) making.length (bq making)):=az r.rst (fun e=>by
    obtain⟨_,_,ph,QQ⟩:=af r.rst hb e
    exact absurd (ah r.box QQ) (by decide)) _ _
   have la:hb≠w.heap.size:=fun e=>absurd (ah r.box (e ▸ mv.out)) (by decide);have P:Hid ((H.setCell (J hb 8 Z) (QA QC)).heap[w.heap.size]?=_):=(qh _ _ _ _ (Ne.symm la)).trans mv;have QK:Hid (KS w0.heap.size XN w (H.setCell (J hb 8 Z) (QA QC))):=(KS.of_below (X:=XN) K2 lr l).to (KS.setCell H r.hbB (.inr fun f t fz M=>.inr (.inr (ah M r.box))) _);have QH:w0.heap.size<=hb:=r.hbB;generalize H.setCell (J hb 8 Z) (QA QC)=b at th R3 P QK ⊢;have K:Hid (ShBox b hb (Y a0 S.n0 c0) (Y a1 S.n1 c1) (Y (Q (J g 0 Z)) L.length Fl) or (Y (Q (J QJ 0 Z)) making.length f) 0 ⟨#[]⟩ (Y Z 0 0) QC):=th.out;obtain⟨Fh,-,-,-,-,b4,-⟩:=K.facts;rw[<-B.out] at b4;have LO:=ae (jW b 9 1);have A4:=ae ((Qs b).alloc lr (T #[] 9));have FD:Hid (∀ q u,(bq (making.drop j))[q]?=Q u->(b.alloc (T #[] 9)).cell? (((J QJ j Z):Addr).add q)=Q u):=fun q u hq=>by have h1:=(own_below R3 A4 lr).cells (g:=QJ) rfl (j+q) u (by rw[<-hq,bq,bq,ID,ID,NG]);rw[addr_add,C9] at h1;rw[addr_add];exact h1
   have hjc:¬ f=j:=by omega
   have hI2:(0:Int)<=(j:Int):=by omega
   have hI3:(j:Int)<=(d:Int):=by omega
   have hI4:(d:Int)<=(f:Int):=by omega
   have At:(bq (making.drop j)).length=(d - j)*1:=by rw[bq,IZ,IH,<-B.out,Nat.mul_one]
   have Fk:=ae At;have bt:∀ u∈bq (making.drop j),u.oneCell'=QC:=fun u hu=>by rw[bq,IC] at hu;obtain⟨t,_,rfl⟩:=hu;rfl
   have Fi:=ae bt;clear At bt;have HG:Hid (∀ p:E,(b.alloc (T #[] 9)).grownBy p (Q b.heap.size)->p.heap[hb]?=b.heap[hb]?/\p.heap[w.heap.size]?=b.heap[w.heap.size]?):=fun p hg=>by
    have hz:(b.alloc (T #[] 9)).heap.size=b.heap.size+1:=by simp
    have FA:=ai P.out;exact⟨(hg.block hb (by omega) (fun e=>by have O:hb=b.heap.size:=FB e;omega)).trans (A4.block hb Fh),(hg.block w.heap.size (by omega) (fun e=>by have O:w.heap.size=b.heap.size:=FB e;omega)).trans (A4.block _ FA)⟩
   have ex:b.heap.size<=(b.alloc (T #[] 9)).heap.size:=by simp
   have Fd:(0+(d - j))*16<=140737488355328:=by omega
   have DQ:0+(d - j)<=maxLen:=by unfold maxLen;omega
   have DE:0+(d - j)≠0:=by omega
   go_wp2_with (first
    | (at_builtin;refine bu _ rfl (.tmp 129) (.tmp 135) 39 rfl b.heap.size 9 i1 (U ⟨#[]⟩) 1 16 Tryz.underlying39 FC FF Fy Fu rfl (by decide) (Y (Q (J b.heap.size 0 Z)) 0 0) 0 [] (by simp[Act.eval]) LO.out (J QJ j Z) (d - j) (f - j) (bq (making.drop j)) (by simp[Act.eval]) Fk.out FD.out Fi.out DQ Fd ex ?_;intro v4 p QP o Fr;have O4:=ae QP;have n6:=ae (HG p o).1;have ro:=ae (HG p o).2;have G4:=ae o;obtain⟨QO,c4,cu4,rfl,FE⟩:=QP.2.resolve_left (fun h=>DE h.2);clear FE QP o Fr;obtain⟨hbl4,-,-,-,-,-,f5,f6,f7,-,ff⟩:=(ShBox.blk K n6).facts;have ff5:=ff 5;have ff6:=ff 6;have ff7:=ff 7;obtain⟨rl,r0,r1,r2,rf⟩:=aZ (ro.trans P);have rf0:=rf 0;have rf1:=rf 1;have rf2:=rf 2;have hbw2:¬ w.heap.size=hb:=(fun e=>la e.symm);have QM:¬ hb=w.heap.size:=la;clear ff rf)
    | fail)
   refine bp (v:=QE #[N I 6,U ⟨#[]⟩,Y (Q (J QO 0 Z)) (d - j) c4]) (by simp[results,Tryz.results167,go_sem,r0,r1,r2]) rfl ?_;have QG:(making.drop j).length=d - j:=by rw[IH,<-B.out]
   have ld:=n6.trans K.out;have Bk:=aw ld (j:=5) (N I 6);have ur:=aw Bk (j:=6) (U ⟨#[]⟩);have Fp:=aw ur (j:=7) (Y (Q (J QO 0 Z)) (d - j) c4);have G:(Value.slice (Q (J QO 0 Z)) (d - j) c4).ownBlock≠Q hb:=fun e=>by obtain⟨_,_,ph,QQ⟩:=af O4 hb (by simpa[Value.ownBlock] using e);exact absurd (ah ld QQ) (by decide)
   have QN:(Value.slice (Q (J QO 0 Z)) (d - j) c4).ownBlock≠Q w.heap.size:=fun e=>by obtain⟨_,_,ph,QQ⟩:=af O4 w.heap.size (by simpa[Value.ownBlock] using e);exact absurd (ah (ro.trans P) QQ) (by decide)
   have o4:p.ownsRow w0.heap.size 9 1 (Y (Q (J QO 0 Z)) (d - j) c4) (d - j) (bq (making.drop j)):=by have h1:=O4.out;rw[C9,IM] at h1;exact aI h1 (j5 l QK.below.size)
   have k4:KS w0.heap.size XN w p:=(QK.to (KS.of_below (X:=XN) A4 lr (j5 l QK.below.size))).to (KS.of_grown G4 (j5 (j5 l QK.below.size) ex) fun q hq=>by
    have O:q=b.heap.size:=(FB hq).symm;refine⟨by rw[O];exact j5 l QK.below.size,.inr fun f t fz M=>?_⟩;rw[O] at M
    exact .inl (ah M (eL b _)))
   have A:∀ (W:E) (f:Array QB) (t:QF) (fz:Nat × Nat),W.heap[hb]?=p.heap[hb]?∨(∃ c2,W.heap[hb]?=Q (T c2 132 (0,0)))->W.heap[hb]?=Q (T f t fz)->t=9∨t=239∨t=132:=fun W f t fz hW M=>by
    rcases hW with hW | ⟨c2,hW⟩
    ·exact .inr (.inr (ah M (hW.trans ld)))
    ·exact .inr (.inr (ah M hW))
   refine⟨Q (J QO 0 Z),c4,by rw[QG];rfl,⟨_,_,_,_,_,(qh _ _ _ _ QM).trans ((qh _ _ _ _ QM).trans ((qh _ _ _ _ QM).trans (by rw[QG];exact Fp))),?_⟩,?_⟩
   ·show World.ownsRow _ _ _ _ _ (making.drop j).length _
    rw[QG];exact az (az (az (az (az (az o4 G _ _) G _ _) G _ _) QN _ _) QN _ _) QN _ _
   ·have k7:=((k4.to (KS.setCell (X:=XN) p QH (.inr fun f t fz=>A _ f t fz (.inl rfl)) (N I 6) (j:=5))).to (KS.setCell (X:=XN) _ QH (.inr fun f t fz=>A _ f t fz (.inr ⟨_,Bk⟩)) (U ⟨#[]⟩) (j:=6))).to (KS.setCell (X:=XN) _ QH (.inr fun f t fz=>A _ f t fz (.inr ⟨_,ur⟩)) (Y (Q (J QO 0 Z)) (d - j) c4) (j:=7))
    refine((k7.trans (KS.setCell (X:=fun i=>i=w.heap.size) _ l (Or.inl rfl) _) ?_).trans (KS.setCell (X:=fun i=>i=w.heap.size) _ l (Or.inl rfl) _) ?_).trans (KS.setCell (X:=fun i=>i=w.heap.size) _ l (Or.inl rfl) _) ?_;all_goals
     intro i hi h;have O:i=w.heap.size:=h;omega
end
def dl (nm:ByteArray):SM:=⟨nm,0,⟨#[]⟩,[],Y Z 0 0,D⟩
theorem lg (w:E)(g d i f k l:QB)(t:QF):∀ j u,[g,d,i,f,k,l][j]?=Q u->(w.alloc (T #[g,d,i,f,k,l] t)).cell? (((J w.heap.size 0 Z):Addr).add j)=Q u:=by
 intro j u h;rw[addr_add];have hj:j<6:=by
  rcases IW j 6 with b | b
  ·exact b
  ·rw[IP (by simp;omega)] at h;cases h
 rcases(show j=0∨j=1∨j=2∨j=3∨j=4∨j=5 by omega) with rfl | rfl | rfl | rfl | rfl | rfl;all_goals
  simp at h;subst h;simp
theorem li (w:E)(v:QB)(t:QF):∀ j u,[v][j]?=Q u->(w.alloc (T #[v] t)).cell? (((J w.heap.size 0 Z):Addr).add j)=Q u:=by
 intro j u h;rw[addr_add];have b:j=0:=by
  rcases IW j 1 with d | d
  ·omega
  ·rw[IP (by simp;omega)] at h;cases h
 subst b;simp at h;subst h;simp
theorem ej {w:E}{d size n:Nat}{e:QF}{v:QB}{f:List QB}(h:w.ownsRow d e size v n f):∃ a b,v=Y a n b:=by
 obtain⟨_,⟨rfl,rfl⟩ | ⟨g,b,cur,rfl,_⟩⟩:=h
 ·exact⟨Z,0,rfl⟩
 ·exact⟨_,_,rfl⟩
theorem KS.fresh {B:Nat}{W w:E}(h:KS B XN W w){b:Nat}(hb:W.heap.size<=b)(f:B<=W.heap.size)(j:Nat)(u:QB):KS B XN W (w.setCell (J b j Z) u) :=
 h.trans (KS.setCell (X:=fun i=>i=b) w (j5 f hb) (Or.inl rfl) u) fun i hi d=>by have e2:i=b:=d;omega
section
variable {w0 w:E}{hb:Nat}{s0 s1 or st:QB}{making:List ByteArray}{made:List Ent}{L:List SM}
theorem SI.upd' {g b k j QM:Nat}{m m':SM}{u:QB}(l:L.length=QM)(h:SI w0 hb s0 s1 w making made L (Y (Q (J g 0 Z)) QM b) or st)(d:L[k]?=Q m)(i:j<6)(f:smV m'=(smV m).set j u)(n:m'.done=QC->w.ownsRow w0.heap.size 242 3 m'.sv m'.seen.length (eY m'.seen)):SI w0 hb s0 s1 (w.setCell (J g (k*6+j) Z) u) making made (L.set k m') (Y (Q (J g 0 Z)) QM b) or st/\KS w0.heap.size XN w (w.setCell (J g (k*6+j) Z) u)/\(L.set k m')[k]?=Q m'/\(L.set k m').length=QM:=by subst l;have:=h.upd d i f n;rw[IS] at this;exact⟨this.1,this.2,L8 (kS.1 d).1,IS⟩
theorem SI.told {g f k QM:Nat}{m:SM}(A:L.length=QM)(h:SI w0 hb s0 s1 w making made L (Y (Q (J g 0 Z)) QM f) or st)(z:L[k]?=Q m)(p:m.done=D)(b:Int)(d:ByteArray):SI w0 hb s0 s1 (((w.setCell (J g (k*6+1) Z) (N I b)).setCell (J g (k*6+1+1) Z) (U d)).setCell (J g (k*6+1+2) Z) (Y Z 0 0)) making made (L.set k ⟨m.name,b,d,m.seen,m.sv,D⟩) (Y (Q (J g 0 Z)) QM f) or st/\KS w0.heap.size XN w (((w.setCell (J g (k*6+1) Z) (N I b)).setCell (J g (k*6+1+1) Z) (U d)).setCell (J g (k*6+1+2) Z) (Y Z 0 0))/\(L.set k ⟨m.name,b,d,m.seen,m.sv,D⟩)[k]?=Q ⟨m.name,b,d,m.seen,m.sv,D⟩/\(L.set k ⟨m.name,b,d,m.seen,m.sv,D⟩).length=QM:=by obtain⟨a1,x,o,B⟩:=h.upd' A z (j:=1) (by omega) (u:=N I b) (m':=⟨m.name,b,m.text,m.seen,m.sv,D⟩) (by simp[smV,p]) (fun h=>by cases h);obtain⟨s,t,q,y⟩:=a1.upd' B o (j:=2) (by omega) (u:=U d) (m':=⟨m.name,b,d,m.seen,m.sv,D⟩) rfl (fun h=>by cases h);obtain⟨l,r,i,n⟩:=s.upd' y q (j:=3) (by omega) (m':=⟨m.name,b,d,m.seen,m.sv,D⟩) (u:=Y Z 0 0) rfl (fun h=>by cases h);rw[L9,L9] at l i n;exact⟨l,(x.to t).to r,i,n⟩
end
section
variable {w0:E}{S:Spc}{a0 a1:Option Addr}{c0 c1 hb:Nat}{md or st:QB}{making:List ByteArray}{made:List Ent}{L:List SM}
theorem zc (C:kX w0 S a0 a1)(w:E)(nm:ByteArray)(h:SI w0 hb (Y a0 S.n0 c0) (Y a1 S.n1 c1) w making made L md or st)(Fo:L.length<=100000)(Fu:made.length<=100000)(h1:fI L nm=Z)(h2:atI (nm0 S.f0) S.n0 nm=Z)(h3:atI (nm1 S.f1) S.n1 nm=Z):Calls Tryz.prog 167 #[.pointer (Q (J hb 0 Z)),U nm] w fun e w'=>∃ Fw Fq,e=QD (QE #[N I 4,U nm,Y Z 0 0])/\SI w0 hb (Y a0 S.n0 c0) (Y a1 S.n1 c1) w' making (made++[⟨nm,2,0,⟨#[]⟩,0,[]⟩]) ((L++[dl nm]).set L.length ⟨nm,4,nm,[],Y Z 0 0,QC⟩) Fw Fq st/\KS w0.heap.size XN w w':=by
 obtain⟨im,FE,Fd,Fp,FC⟩:=eZ kY;obtain⟨i1,Ft,Fy,Fr,Fk⟩:=eZ gL;have A0:=ae ((Qs w).alloc lr (T #[N I 0,U ⟨#[]⟩,Y Z 0 0] 41));have kr:Hid ((w.alloc (T #[N I 0,U ⟨#[]⟩,Y Z 0 0] 41)).heap[w.heap.size]?=Q (T #[N I 0,U ⟨#[]⟩,Y Z 0 0] 41 (0,0))):=eL _ _;have W:=ae (h.below A0 lr);have s:w0.heap.size<=w.heap.size:=h.lt;have e1:dk (fI L nm)=-1:=by rw[h1];rfl
 obtain⟨am,cm,rfl⟩:=ej h.rmd;obtain⟨n,hn⟩:∃ n,n=L.length:=⟨_,rfl⟩
 have M:=ae hn;have CC:=ae C;have hsm:=C.ok.small;have hn1:n<=100000:=by omega
 clear h h1 hn C;have es:dk (atI (nm0 S.f0) S.n0 nm)=-1:=by rw[h2];rfl
 have et:dk (atI (nm1 S.f1) S.n1 nm)=-1:=by rw[h3];rfl
 clear h2 h3;go_enter Tryz.func167,Tryz.ntmps167;go_wp2_with fail;generalize w.alloc (T #[N I 0,U ⟨#[]⟩,Y Z 0 0] 41)=r at A0 kr W ⊢;refine(gJ r nm W Fo).mono ?_;rintro e w1 ⟨rfl,n8⟩;rw[n8,e1];clear n8 e1;obtain⟨p,-,-,QP,-⟩:=W.box.facts;rw[<-M.out] at QP;have A1:=ae ((Qs r).alloc lr (T #[U nm,N I 0,U ⟨#[]⟩,Y Z 0 0,Y Z 0 0,QA D] 239));have SA:=ae (W.below A1 lr);have RM:=ae (by have h:=SA.rmd;rw[<-M.out] at h;exact h);have Fx:(r.alloc (T #[U nm,N I 0,U ⟨#[]⟩,Y Z 0 0,Y Z 0 0,QA D] 239)).heap.size=r.heap.size+1:=by simp
 have HG:Hid (∀ g:E,(r.alloc (T #[U nm,N I 0,U ⟨#[]⟩,Y Z 0 0,Y Z 0 0,QA D] 239)).grownBy g (Value.slice am n cm).ownBlock->g.heap[hb]?=(r.alloc (T #[U nm,N I 0,U ⟨#[]⟩,Y Z 0 0,Y Z 0 0,QA D] 239)).heap[hb]?):=fun g hg=>hg.block hb (by omega) fun e=>by obtain⟨_,_,cs,hc⟩:=af RM hb e.symm;exact absurd (ah SA.box hc) (by decide)
 have DE:w0.heap.size<=(r.alloc (T #[U nm,N I 0,U ⟨#[]⟩,Y Z 0 0,Y Z 0 0,QA D] 239)).heap.size:=SA.lt;have hz1':r.heap.size<(r.alloc (T #[U nm,N I 0,U ⟨#[]⟩,Y Z 0 0,Y Z 0 0,QA D] 239)).heap.size:=by omega
 clear Fx
 go_upto_region 7 with (first
  | (at_builtin;refine bu _ rfl (.tmp 46) (.tmp 49) 130 rfl w0.heap.size 239 im (QE #[U ⟨#[]⟩,N I 0,U ⟨#[]⟩,Y Z 0 0,Y Z 0 0,QA D]) 6 96 Tryz.underlying130 FE Fd Fp FC rfl (by decide) (Y am n cm) n (L.flatMap smV) (by simp[Act.eval]) RM.out (J r.heap.size 0 Z) 1 1 [U nm,N I 0,U ⟨#[]⟩,Y Z 0 0,Y Z 0 0,QA D] (by simp[Act.eval]) rfl (lg r _ _ _ _ _ _ _) (by simp[Value.oneCell']) (by unfold maxLen;omega) (by omega) DE ?_;intro v2 g k d P;have O2:=ae k;have G2:=ae d;have n7:=ae (HG g d);obtain⟨b,y,cu2,rfl,Fh⟩:=k.2.resolve_left (fun h=>by omega);clear Fh k d P;obtain⟨Bk,-,-,f2,-,-,-,-,-,-,ff⟩:=(ShBox.blk SA.box n7).facts;have FF:=ff 2;clear ff)
  | fail)
 have SX:=ae (SA.addL (m:=dl nm) (w':=g) (v:=Y (Q (J b 0 Z)) (n+1) y) (by rw[<-M.out];exact G2) (by rw[<-M.out];exact O2) rfl);have S3:=ae SX.1;have K3:Hid (KS w0.heap.size XN w (g.setCell (J hb 2 Z) (Y (Q (J b 0 Z)) (n+1) y))):=((KS.of_below (X:=XN) A0 lr s).to (KS.of_below A1 lr W.lt)).to SX.2;have O:Hid ((g.setCell (J hb 2 Z) (Y (Q (J b 0 Z)) (n+1) y)).heap[w.heap.size]?=Q (T #[N I 0,U ⟨#[]⟩,Y Z 0 0] 41 (0,0))):=by have QH:=(A1.block _ (ai kr)).trans kr;exact(SX.2.blk _ _ _ _ QH (by decide) (by decide) (by decide) fun h=>h).trans QH
 have QQ:(L++[dl nm]).length=n+1:=by rw[cM,p7,<-M.out]
 have R:Hid ((L++[dl nm])[n]?=Q (dl nm)):=by rw[M.out];show _=_;rw[AT lr,JW];rfl
 clear SX f2 FF Bk QP p RM SA A1 HG O2 G2 n7;generalize g.setCell (J hb 2 Z) (Y (Q (J b 0 Z)) (n+1) y)=W3 at S3 K3 O ⊢;obtain⟨p,b0,b1,-⟩:=S3.box.facts;go_wp2_with fail;refine(fa a0 S.n0 c0 a1 S.n1 c1 S.f0 nm W3 (by omega) (CC.src.below S3.bel lr)).mono ?_;rintro e w4 ⟨he,B⟩;rw[es] at he;subst he;have S4:=ae (S3.below B lr);have ld:Hid (w4.heap[w.heap.size]?=_):=(B.block _ (ai O)).trans O;have K4:=ae (K3.to (KS.of_below (X:=XN) B lr S3.lt));clear B b0 b1 p S3 K3 O;obtain⟨p,b0,b1,-⟩:=S4.box.facts;go_wp2_with fail;refine(fb a0 S.n0 c0 a1 S.n1 c1 S.f1 nm w4 (by omega) (CC.tgt.below S4.bel lr)).mono ?_;rintro e H ⟨he,B⟩;rw[et] at he;subst he;have S5:=ae (S4.below B lr);have aq:Hid (H.heap[w.heap.size]?=Q (T #[N I 0,U ⟨#[]⟩,Y Z 0 0] 41 (0,0))):=(B.block _ (ai ld)).trans ld;have K5:=ae (K4.to (KS.of_below (X:=XN) B lr S4.lt));clear B b0 b1 p S4 K4 ld A0 W kr;have A6:=ae ((Qs H).alloc lr (T #[N I 4,U nm,Y Z 0 0] 41));have QM:Hid ((H.alloc (T #[N I 4,U nm,Y Z 0 0] 41)).heap[H.heap.size]?=Q (T #[N I 4,U nm,Y Z 0 0] 41 (0,0))):=eL _ _;go_upto_region 13 with fail;generalize H.alloc (T #[N I 4,U nm,Y Z 0 0] 41)=l at A6 QM ⊢;have S6:=ae (S5.below A6 lr);have bt:Hid (l.heap[w.heap.size]?=Q (T #[N I 0,U ⟨#[]⟩,Y Z 0 0] 41 (0,0))):=(A6.block _ (ai aq)).trans aq;have K6:=ae (K5.to (KS.of_below (X:=XN) A6 lr S5.lt));obtain⟨rb,n6⟩:∃ rb,rb=H.heap.size:=⟨_,rfl⟩
 rw[<-n6] at QM ⊢;have hrbw:w.heap.size<=rb:=by have:=K5.below.size;omega
 clear n6 A6 S5 aq K5;obtain⟨p,-,-,QP,-⟩:=S6.box.facts;obtain⟨rl,r0,r1,r2,-⟩:=aZ QM;obtain⟨hg2B,hg2l,Fv,la⟩:=af S6.rmd b rfl;have fd:=ae la;have R6:=ae (by have h:=S6.rmd;rw[QQ] at h;exact h);have q1:l.cell? (J b (n*6+1) Z)=Q (N I 0):=cG (by rw[QQ];exact R6) R 1 (by omega) rfl;have q2:l.cell? (J b (n*6+1+1) Z)=Q (U ⟨#[]⟩):=cG (by rw[QQ];exact R6) R 2 (by omega) rfl;have q3:l.cell? (J b (n*6+1+2) Z)=Q (Y Z 0 0):=cG (by rw[QQ];exact R6) R 3 (by omega) rfl;have qf:∀ j,l.frozen? (J b j Z)=D:=fun j=>by simp[World.frozen?,la]
 have Fj:=qf (n*6+1);have Fs:=qf (n*6+1+1);have Fi:=qf (n*6+1+2);clear qf la;have hIn:(n:Int)<(n:Int)+1:=by omega
 have QO:b≠hb:=by intro e;have h:=fd.out;rw[e] at h;exact absurd (ah h S6.box) (by decide)
 have f:b≠rb:=by intro e;have h:=fd.out;rw[e] at h;exact absurd (ah h QM) (by decide)
 refine wp_region_held_drew (S:=fun V=>V.cell? (J hb 2 Z)=Q (Y (Q (J b 0 Z)) (n+1) y)/\V.cell? (J rb 0 Z)=Q (N I 4)/\V.cell? (J rb 1 Z)=Q (U nm)/\V.cell? (J rb 2 Z)=Q (Y Z 0 0)) (by as_aux_lemma=>kernel_rfl) ⟨QP,r0,r1,r2⟩ (fun hS=>?_);have HS:=ae hS;clear hS
 iterate 8
  first | refine bS 0 (v:=?_) rfl rfl (by as_aux_lemma=>kernel_rfl) (fun _ _ _ h=>h) rfl ?_ HS ?_ | refine bS 4 (v:=?_) rfl rfl (by as_aux_lemma=>kernel_rfl) (fun _ _ _ h=>h) rfl ?_ HS ?_
  rotate_left
  ·(intro wz FG;obtain⟨s0,s1,s2,s3⟩:=FG;go_simp)
   (try with_reducible rfl)
  (try simp only[Act.put,nzL])
 have G:=ae (S6.told QQ R rfl 4 nm)
 have At:Hid ((((l.setCell (J b (n*6+1) Z) (N I 4)).setCell (J b (n*6+1+1) Z) (U nm)).setCell (J b (n*6+1+2) Z) (Y Z 0 0)).drew.cell? (J hb 2 Z)=Q (Y (Q (J b 0 Z)) (n+1) y)/\(((l.setCell (J b (n*6+1) Z) (N I 4)).setCell (J b (n*6+1+1) Z) (U nm)).setCell (J b (n*6+1+2) Z) (Y Z 0 0)).drew.cell? (J rb 0 Z)=Q (N I 4)/\(((l.setCell (J b (n*6+1) Z) (N I 4)).setCell (J b (n*6+1+1) Z) (U nm)).setCell (J b (n*6+1+2) Z) (Y Z 0 0)).drew.cell? (J rb 1 Z)=Q (U nm)/\(((l.setCell (J b (n*6+1) Z) (N I 4)).setCell (J b (n*6+1+1) Z) (U nm)).setCell (J b (n*6+1+2) Z) (Y Z 0 0)).drew.cell? (J rb 2 Z)=Q (Y Z 0 0)) :=
  ⟨(cell_far _ _ _ _ QO).trans ((cell_far _ _ _ _ QO).trans ((cell_far _ _ _ _ QO).trans QP)),(cell_far _ _ _ _ f).trans ((cell_far _ _ _ _ f).trans ((cell_far _ _ _ _ f).trans r0)),(cell_far _ _ _ _ f).trans ((cell_far _ _ _ _ f).trans ((cell_far _ _ _ _ f).trans r1)),(cell_far _ _ _ _ f).trans ((cell_far _ _ _ _ f).trans ((cell_far _ _ _ _ f).trans r2))⟩
 refine bN (i:=8) rfl (by as_aux_lemma=>kernel_rfl) (fun K hK=>?_);go_simp;refine hK _ _ At ?_;clear hK K HS q1 q2 q3 Fj Fs Fi QP r0 r1 r2 rl
 (try simp only[Act.put])
 refine wpAnyH_done (by as_aux_lemma=>kernel_rfl) ?_ _;have D7:Hid (Below (((l.setCell (J b (n*6+1) Z) (N I 4)).setCell (J b (n*6+1+1) Z) (U nm)).setCell (J b (n*6+1+2) Z) (Y Z 0 0)).heap.size (((l.setCell (J b (n*6+1) Z) (N I 4)).setCell (J b (n*6+1+1) Z) (U nm)).setCell (J b (n*6+1+2) Z) (Y Z 0 0)) (((l.setCell (J b (n*6+1) Z) (N I 4)).setCell (J b (n*6+1+1) Z) (U nm)).setCell (J b (n*6+1+2) Z) (Y Z 0 0)).drew):=br.drew;have QG:=ae (G.1.below D7 lr);have K7:=ae (K6.to (G.2.1.to (KS.of_below (X:=XN) D7 lr G.1.lt)));have ur:=G.2.2.1;have ro:=G.2.2.2;have QL:Hid ((((l.setCell (J b (n*6+1) Z) (N I 4)).setCell (J b (n*6+1+1) Z) (U nm)).setCell (J b (n*6+1+2) Z) (Y Z 0 0)).drew.heap[w.heap.size]?=Q (T #[N I 0,U ⟨#[]⟩,Y Z 0 0] 41 (0,0))):=by have QH:=(G.2.1.blk _ _ _ _ bt (by decide) (by decide) (by decide) fun h=>h).trans bt;exact QH
 have QK:Hid ((((l.setCell (J b (n*6+1) Z) (N I 4)).setCell (J b (n*6+1+1) Z) (U nm)).setCell (J b (n*6+1+2) Z) (Y Z 0 0)).drew.heap[rb]?=Q (T #[N I 4,U nm,Y Z 0 0] 41 (0,0))):=by have QH:=(G.2.1.blk _ _ _ _ QM (by decide) (by decide) (by decide) fun h=>h).trans QM;exact QH
 have mv:=ae ur;have n9:=ae ro;clear G At ur ro bt QM K6 S6 R6 fd D7;generalize (((l.setCell (J b (n*6+1) Z) (N I 4)).setCell (J b (n*6+1+1) Z) (U nm)).setCell (J b (n*6+1+2) Z) (Y Z 0 0)).drew=W7 at QG K7 QL QK ⊢;obtain⟨p,-,-,QP,-⟩:=QG.box.facts;obtain⟨hg2B',hg2l',cs7,ph⟩:=af QG.rmd b rfl;have q5:W7.cell? (J b (n*6+5) Z)=Q (QA D):=cG (by have h:=QG.rmd;rw[n9.out] at h ⊢;exact h) mv 5 (by omega) rfl;have FD:W7.frozen? (J b (n*6+5) Z)=D:=by simp[World.frozen?,ph]
 have TD:=ae (QG.upd' n9 mv (j:=5) (by omega) (u:=QA QC) (m':=⟨nm,4,nm,[],Y Z 0 0,QC⟩) rfl (fun _=>⟨rfl,.inl ⟨rfl,rfl⟩⟩));have z:Hid ((W7.setCell (J b (n*6+5) Z) (QA QC)).heap[w.heap.size]?=Q (T #[N I 0,U ⟨#[]⟩,Y Z 0 0] 41 (0,0))):=(TD.2.1.blk _ _ _ _ QL (by decide) (by decide) (by decide) fun h=>h).trans QL;have A:Hid ((W7.setCell (J b (n*6+5) Z) (QA QC)).heap[rb]?=Q (T #[N I 4,U nm,Y Z 0 0] 41 (0,0))):=(TD.2.1.blk _ _ _ _ QK (by decide) (by decide) (by decide) fun h=>h).trans QK;have QN:=ae TD.1;have K8:=ae (K7.to TD.2.1);clear ph;go_upto_region 15 with fail;clear QP q5 FD TD QG K7 QL QK;generalize W7.setCell (J b (n*6+5) Z) (QA QC)=o at QN K8 z A ⊢;obtain⟨ao,co,rfl⟩:=ej QN.ror;obtain⟨q,hq⟩:∃ q,q=made.length:=⟨_,rfl⟩
 have HQ:=ae hq;rw[<-hq] at Fu;clear hq;obtain⟨p,-,-,-,b3,-⟩:=QN.box.facts;rw[<-HQ.out] at b3;have A9:=ae ((Qs o).alloc lr (T #[U nm] 9));have S9:=ae (QN.below A9 lr);have RO:=ae (by have h:=S9.ror;rw[<-HQ.out] at h;exact h);have DA:w0.heap.size<=(o.alloc (T #[U nm] 9)).heap.size:=S9.lt;have HG:Hid (∀ g:E,(o.alloc (T #[U nm] 9)).grownBy g (Value.slice ao q co).ownBlock->g.heap[hb]?=(o.alloc (T #[U nm] 9)).heap[hb]?/\g.heap[w.heap.size]?=(o.alloc (T #[U nm] 9)).heap[w.heap.size]?/\g.heap[rb]?=(o.alloc (T #[U nm] 9)).heap[rb]?):=fun g hg=>by
  have ex:∀ (i:Nat) (cs:Array QB) (t:QF) (fz:Nat × Nat),(o.alloc (T #[U nm] 9)).heap[i]?=Q (Obj.cells cs t fz)->t≠9->g.heap[i]?=(o.alloc (T #[U nm] 9)).heap[i]?:=fun i cs t fz hi ht=>hg.block i (ai hi) fun e=>by obtain⟨_,_,Fv,hc⟩:=af RO i e.symm;exact ht (ah hi hc)
  exact⟨ex _ _ _ _ S9.box (by decide),ex _ _ _ _ ((A9.block _ (ai z)).trans z) (by decide),ex _ _ _ _ ((A9.block _ (ai A)).trans A) (by decide)⟩
 have qr:Hid ((o.alloc (T #[U nm] 9)).heap[w.heap.size]?=Q (T #[N I 0,U ⟨#[]⟩,Y Z 0 0] 41 (0,0))):=(A9.block _ (ai z)).trans z;have FH:Hid ((o.alloc (T #[U nm] 9)).heap[rb]?=Q (T #[N I 4,U nm,Y Z 0 0] 41 (0,0))):=(A9.block _ (ai A)).trans A;have Fz:¬ hb=w.heap.size:=fun e=>by have h:=QN.box;unfold ShBox at h;rw[e] at h;exact absurd (ah h z) (by decide)
 have DQ:¬ w.heap.size=hb:=fun e=>Fz e.symm;have Fl:¬ hb=rb:=fun e=>by have h:=QN.box;unfold ShBox at h;rw[e] at h;exact absurd (ah h A) (by decide)
 have hbr':¬ rb=hb:=fun e=>Fl e.symm
 go_wp2_with (first
  | (at_builtin;refine bu _ rfl (.tmp 100) (.tmp 102) 39 rfl w0.heap.size 9 i1 (U ⟨#[]⟩) 1 16 Tryz.underlying39 Ft Fy Fr Fk rfl (by decide) (Y ao q co) q (bq (made.map (·.name))) (by simp[Act.eval]) RO.out (J o.heap.size 0 Z) 1 1 [U nm] (by simp[Act.eval]) rfl (li o _ _) (by simp[Value.oneCell']) (by unfold maxLen;omega) (by omega) DA ?_;intro v9 w9 k d P;have O9:=ae k;have G9:=ae d;have FA:=ae P;have QJ:=ae (HG w9 d);obtain⟨g9,c9,cu9,rfl,Fm⟩:=k.2.resolve_left (fun h=>by omega);clear Fm k d P;obtain⟨hbl9,-,-,-,f3,-,-,-,-,-,ff⟩:=(ShBox.blk S9.box QJ.1).facts;have ff3:=ff 3;obtain⟨rl,r0,r1,r2,rf⟩:=aZ (QJ.2.1.trans qr);have rf0:=rf 0;have rf1:=rf 1;have rf2:=rf 2;obtain⟨pl,p0,p1,p2,pf⟩:=aZ (QJ.2.2.trans FH);clear ff rf pf)
  | fail)
 have th:=ae (S9.ord (x:=⟨nm,2,0,⟨#[]⟩,0,[]⟩) (w':=w9) (v:=Y (Q (J g9 0 Z)) (q+1) c9) (by rw[<-HQ.out];exact G9) (by rw[<-HQ.out];exact O9) (by rw[<-HQ.out];exact FA));refine bp (v:=QE #[N I 4,U nm,Y Z 0 0]) (by simp[results,Tryz.results167,go_sem,r0,r1,r2]) rfl ?_;have sm:=(qh w9 (J hb 3 Z) (Y (Q (J g9 0 Z)) (q+1) c9) w.heap.size DQ).trans (QJ.2.1.trans qr);refine⟨Y (Q (J b 0 Z)) (n+1) y,Y (Q (J g9 0 Z)) (q+1) c9,rfl,?_,?_⟩
 ·rw[<-M.out]
  have x0:=th.1;rw[L9] at x0;replace x0:=x0.setOff sm ⟨by decide,by decide,by decide,by decide⟩ s 0 (N I 4);have y0:=aw sm (j:=0) (N I 4);have x1:=x0.setOff y0 ⟨by decide,by decide,by decide,by decide⟩ s 1 (U nm);exact x1.setOff (aw y0 (j:=1) (U nm)) ⟨by decide,by decide,by decide,by decide⟩ s 2 (Y Z 0 0)
 ·have k0:=(K8.to (KS.of_below (X:=XN) A9 lr QN.lt)).to th.2
  exact((k0.fresh lr s 0 _).fresh lr s 1 _).fresh lr s 2 _
end
section
variable {w0:E}{S:Spc}{a0 a1:Option Addr}{c0 c1 hb:Nat}{md or st:QB}{making:List ByteArray}{made:List Ent}{L:List SM}
theorem Bs (C:kX w0 S a0 a1)(w:E)(nm:ByteArray)(h:SI w0 hb (Y a0 S.n0 c0) (Y a1 S.n1 c1) w making made L md or st)(Fu:L.length<=100000)(FA:made.length<=100000)(h1:fI L nm=Z)(si:Nat)(h2:atI (nm0 S.f0) S.n0 nm=Q si)(h3:atI (nm1 S.f1) S.n1 nm=Z):Calls Tryz.prog 167 #[.pointer (Q (J hb 0 Z)),U nm] w fun e w'=>∃ FE Fw,e=QD (QE #[N I 0,U (S.f0 si).text,Y Z 0 0])/\SI w0 hb (Y a0 S.n0 c0) (Y a1 S.n1 c1) w' making (made++[⟨nm,1,0,(S.f0 si).text,0,[]⟩]) ((L++[dl nm]).set L.length ⟨nm,0,(S.f0 si).text,[],Y Z 0 0,QC⟩) FE Fw st/\KS w0.heap.size XN w w':=by
 obtain⟨im,FM,Fm,Fv,FJ⟩:=eZ kY;obtain⟨i1,Fz,FG,Fx,Fr⟩:=eZ gL;have A0:=ae ((Qs w).alloc lr (T #[N I 0,U ⟨#[]⟩,Y Z 0 0] 41));have kr:Hid ((w.alloc (T #[N I 0,U ⟨#[]⟩,Y Z 0 0] 41)).heap[w.heap.size]?=Q (T #[N I 0,U ⟨#[]⟩,Y Z 0 0] 41 (0,0))):=eL _ _;have QG:=ae (h.below A0 lr);have z:w0.heap.size<=w.heap.size:=h.lt;have e1:dk (fI L nm)=-1:=by rw[h1];rfl
 obtain⟨am,cm,rfl⟩:=ej h.rmd;obtain⟨n,hn⟩:∃ n,n=L.length:=⟨_,rfl⟩
 have O:=ae hn;have CC:=ae C;have hsm:=C.ok.small;have hn1:n<=100000:=by omega
 clear h h1 hn C;have es:dk (atI (nm0 S.f0) S.n0 nm)=(si:Int):=by rw[h2];rfl
 have et:dk (atI (nm1 S.f1) S.n1 nm)=-1:=by rw[h3];rfl
 have Fl:=(aT h2).1;obtain⟨sb,so,ph,DA⟩:∃ sb so,a0=Q (J sb so Z)/\RowSource w0 sb so S.n0 S.f0:=by
  rcases CC.src with h | ⟨b,off,e,hr⟩
  ·omega
  ·exact⟨b,off,e,hr⟩
 have Fd:=ae DA;have FD:=ae ph;obtain⟨tx,n6⟩:∃ tx,tx=(S.f0 si).text:=⟨_,rfl⟩
 have FL:=ae n6;rw[<-n6];clear h2 h3 DA n6 ph;go_enter Tryz.func167,Tryz.ntmps167;go_wp2_with fail;generalize w.alloc (T #[N I 0,U ⟨#[]⟩,Y Z 0 0] 41)=y at A0 kr QG ⊢;refine(gJ y nm QG Fu).mono ?_;rintro e w1 ⟨rfl,qr⟩;rw[qr,e1];clear qr e1;obtain⟨l,-,-,H,-⟩:=QG.box.facts;rw[<-O.out] at H;have A1:=ae ((Qs y).alloc lr (T #[U nm,N I 0,U ⟨#[]⟩,Y Z 0 0,Y Z 0 0,QA D] 239));have SA:=ae (QG.below A1 lr);have RM:=ae (by have h:=SA.rmd;rw[<-O.out] at h;exact h);have FF:(y.alloc (T #[U nm,N I 0,U ⟨#[]⟩,Y Z 0 0,Y Z 0 0,QA D] 239)).heap.size=y.heap.size+1:=by simp
 have HG:Hid (∀ k:E,(y.alloc (T #[U nm,N I 0,U ⟨#[]⟩,Y Z 0 0,Y Z 0 0,QA D] 239)).grownBy k (Value.slice am n cm).ownBlock->k.heap[hb]?=(y.alloc (T #[U nm,N I 0,U ⟨#[]⟩,Y Z 0 0,Y Z 0 0,QA D] 239)).heap[hb]?):=fun k hg=>hg.block hb (by omega) fun e=>by obtain⟨_,_,cs,hc⟩:=af RM hb e.symm;exact absurd (ah SA.box hc) (by decide)
 have Fj:w0.heap.size<=(y.alloc (T #[U nm,N I 0,U ⟨#[]⟩,Y Z 0 0,Y Z 0 0,QA D] 239)).heap.size:=SA.lt;have hz1':y.heap.size<(y.alloc (T #[U nm,N I 0,U ⟨#[]⟩,Y Z 0 0,Y Z 0 0,QA D] 239)).heap.size:=by omega
 clear FF
 go_upto_region 7 with (first
  | (at_builtin;refine bu _ rfl (.tmp 46) (.tmp 49) 130 rfl w0.heap.size 239 im (QE #[U ⟨#[]⟩,N I 0,U ⟨#[]⟩,Y Z 0 0,Y Z 0 0,QA D]) 6 96 Tryz.underlying130 FM Fm Fv FJ rfl (by decide) (Y am n cm) n (L.flatMap smV) (by simp[Act.eval]) RM.out (J y.heap.size 0 Z) 1 1 [U nm,N I 0,U ⟨#[]⟩,Y Z 0 0,Y Z 0 0,QA D] (by simp[Act.eval]) rfl (lg y _ _ _ _ _ _ _) (by simp[Value.oneCell']) (by unfold maxLen;omega) (by omega) Fj ?_;intro v2 k o f QL;have O2:=ae o;have G2:=ae f;have n9:=ae (HG k f);obtain⟨d,A,cu2,rfl,Fo⟩:=o.2.resolve_left (fun h=>by omega);clear Fo o f QL;obtain⟨Fh,-,-,f2,-,-,-,-,-,-,ff⟩:=(ShBox.blk SA.box n9).facts;have FN:=ff 2;clear ff)
  | fail)
 have SX:=ae (SA.addL (m:=dl nm) (w':=k) (v:=Y (Q (J d 0 Z)) (n+1) A) (by rw[<-O.out];exact G2) (by rw[<-O.out];exact O2) rfl);have S3:=ae SX.1;have K3:Hid (KS w0.heap.size XN w (k.setCell (J hb 2 Z) (Y (Q (J d 0 Z)) (n+1) A))):=((KS.of_below (X:=XN) A0 lr z).to (KS.of_below A1 lr QG.lt)).to SX.2;have P:Hid ((k.setCell (J hb 2 Z) (Y (Q (J d 0 Z)) (n+1) A)).heap[w.heap.size]?=Q (T #[N I 0,U ⟨#[]⟩,Y Z 0 0] 41 (0,0))):=by have h0:=(A1.block _ (ai kr)).trans kr;exact(SX.2.blk _ _ _ _ h0 (by decide) (by decide) (by decide) fun h=>h).trans h0
 have G:(L++[dl nm]).length=n+1:=by rw[cM,p7,<-O.out]
 have QK:Hid ((L++[dl nm])[n]?=Q (dl nm)):=by rw[O.out];show _=_;rw[AT lr,JW];rfl
 clear SX f2 FN Fh H l RM SA A1 HG O2 G2 n9;generalize k.setCell (J hb 2 Z) (Y (Q (J d 0 Z)) (n+1) A)=W3 at S3 K3 P ⊢;obtain⟨l,b0,b1,-⟩:=S3.box.facts;go_wp2_with fail;refine(fa a0 S.n0 c0 a1 S.n1 c1 S.f0 nm W3 (by omega) (CC.src.below S3.bel lr)).mono ?_;rintro e w4 ⟨he,QP⟩;rw[es] at he;subst he;have S4:=ae (S3.below QP lr);have mv:Hid (w4.heap[w.heap.size]?=_):=(QP.block _ (ai P)).trans P;have K4:=ae (K3.to (KS.of_below (X:=XN) QP lr S3.lt));clear QP b0 b1 l S3 K3 P;obtain⟨l,b0,b1,-⟩:=S4.box.facts;go_wp2_with fail;refine(fb a0 S.n0 c0 a1 S.n1 c1 S.f1 nm w4 (by omega) (CC.tgt.below S4.bel lr)).mono ?_;rintro e s ⟨he,QP⟩;rw[et] at he;subst he;have S5:=ae (S4.below QP lr);have aq:Hid (s.heap[w.heap.size]?=Q (T #[N I 0,U ⟨#[]⟩,Y Z 0 0] 41 (0,0))):=(QP.block _ (ai mv)).trans mv;have K5:=ae (K4.to (KS.of_below (X:=XN) QP lr S4.lt));clear QP b0 b1 l S4 K4 mv A0 QG kr;have A5:=ae ((Qs s).alloc lr (T #[N I 4,U nm,Y Z 0 0] 41));have la:=ae (S5.below A5 lr);have hI0:(0:Int)<=(si:Int):=by omega
 have hI1:(si:Int)<(S.n0:Int):=by omega
 have q0:(s.alloc (T #[N I 4,U nm,Y Z 0 0] 41)).cell? (J hb 0 Z)=Q (Y (Q (J sb so Z)) S.n0 c0):=by have h:=la.box.facts.2.1;rw[FD.out] at h;exact h
 have q1:(s.alloc (T #[N I 4,U nm,Y Z 0 0] 41)).cell? (J sb (so+si*2+1) Z)=Q (U tx):=by rw[FL.out];exact((Fd.below la.bel lr).2 si Fl).2
 have l:=S5.box.facts.1;have ql:sb<s.heap.size:=ll Fd.1 S5.lt;go_upto_region 13 with fail;clear q0 q1 ql l A5 la;have A6:=ae ((Qs s).alloc lr (T #[N I 0,U tx,Y Z 0 0] 41));have QN:Hid ((s.alloc (T #[N I 0,U tx,Y Z 0 0] 41)).heap[s.heap.size]?=Q (T #[N I 0,U tx,Y Z 0 0] 41 (0,0))):=eL _ _;generalize s.alloc (T #[N I 0,U tx,Y Z 0 0] 41)=p at A6 QN ⊢;have S6:=ae (S5.below A6 lr);have bt:Hid (p.heap[w.heap.size]?=Q (T #[N I 0,U ⟨#[]⟩,Y Z 0 0] 41 (0,0))):=(A6.block _ (ai aq)).trans aq;have K6:=ae (K5.to (KS.of_below (X:=XN) A6 lr S5.lt));obtain⟨rb,n8⟩:∃ rb,rb=s.heap.size:=⟨_,rfl⟩
 rw[<-n8] at QN ⊢;have hrbw:w.heap.size<=rb:=by have:=K5.below.size;omega
 clear n8 A6 S5 aq K5;obtain⟨l,-,-,H,-⟩:=S6.box.facts;obtain⟨rl,r0,r1,r2,-⟩:=aZ QN;obtain⟨hg2B,hg2l,FC,ld⟩:=af S6.rmd d rfl;have fd:=ae ld;have R6:=ae (by have h:=S6.rmd;rw[G] at h;exact h);have q1:p.cell? (J d (n*6+1) Z)=Q (N I 0):=cG (by rw[G];exact R6) QK 1 (by omega) rfl;have q2:p.cell? (J d (n*6+1+1) Z)=Q (U ⟨#[]⟩):=cG (by rw[G];exact R6) QK 2 (by omega) rfl;have q3:p.cell? (J d (n*6+1+2) Z)=Q (Y Z 0 0):=cG (by rw[G];exact R6) QK 3 (by omega) rfl;have qf:∀ j,p.frozen? (J d j Z)=D:=fun j=>by simp[World.frozen?,ld]
 have Fq:=qf (n*6+1);have Fy:=qf (n*6+1+1);have Fp:=qf (n*6+1+2);clear qf ld;have hIn:(n:Int)<(n:Int)+1:=by omega
 have M:d≠hb:=by intro e;have h:=fd.out;rw[e] at h;exact absurd (ah h S6.box) (by decide)
 have g:d≠rb:=by intro e;have h:=fd.out;rw[e] at h;exact absurd (ah h QN) (by decide)
 refine wp_region_held_drew (S:=fun V=>V.cell? (J hb 2 Z)=Q (Y (Q (J d 0 Z)) (n+1) A)/\V.cell? (J rb 0 Z)=Q (N I 0)/\V.cell? (J rb 1 Z)=Q (U tx)/\V.cell? (J rb 2 Z)=Q (Y Z 0 0)) (by as_aux_lemma=>kernel_rfl) ⟨H,r0,r1,r2⟩ (fun hS=>?_);have HS:=ae hS;clear hS
 iterate 8
  first | refine bS 0 (v:=?_) rfl rfl (by as_aux_lemma=>kernel_rfl) (fun _ _ _ h=>h) rfl ?_ HS ?_ | refine bS 4 (v:=?_) rfl rfl (by as_aux_lemma=>kernel_rfl) (fun _ _ _ h=>h) rfl ?_ HS ?_
  rotate_left
  ·(intro wz FO;obtain⟨s0,s1,s2,s3⟩:=FO;go_simp)
   (try with_reducible rfl)
  (try simp only[Act.put,nzL])
 have QO:=ae (S6.told G QK rfl 0 tx)
 have DQ:Hid ((((p.setCell (J d (n*6+1) Z) (N I 0)).setCell (J d (n*6+1+1) Z) (U tx)).setCell (J d (n*6+1+2) Z) (Y Z 0 0)).drew.cell? (J hb 2 Z)=Q (Y (Q (J d 0 Z)) (n+1) A)/\(((p.setCell (J d (n*6+1) Z) (N I 0)).setCell (J d (n*6+1+1) Z) (U tx)).setCell (J d (n*6+1+2) Z) (Y Z 0 0)).drew.cell? (J rb 0 Z)=Q (N I 0)/\(((p.setCell (J d (n*6+1) Z) (N I 0)).setCell (J d (n*6+1+1) Z) (U tx)).setCell (J d (n*6+1+2) Z) (Y Z 0 0)).drew.cell? (J rb 1 Z)=Q (U tx)/\(((p.setCell (J d (n*6+1) Z) (N I 0)).setCell (J d (n*6+1+1) Z) (U tx)).setCell (J d (n*6+1+2) Z) (Y Z 0 0)).drew.cell? (J rb 2 Z)=Q (Y Z 0 0)) :=
  ⟨(cell_far _ _ _ _ M).trans ((cell_far _ _ _ _ M).trans ((cell_far _ _ _ _ M).trans H)),(cell_far _ _ _ _ g).trans ((cell_far _ _ _ _ g).trans ((cell_far _ _ _ _ g).trans r0)),(cell_far _ _ _ _ g).trans ((cell_far _ _ _ _ g).trans ((cell_far _ _ _ _ g).trans r1)),(cell_far _ _ _ _ g).trans ((cell_far _ _ _ _ g).trans ((cell_far _ _ _ _ g).trans r2))⟩
 refine bN (i:=8) rfl (by as_aux_lemma=>kernel_rfl) (fun K hK=>?_);go_simp;refine hK _ _ DQ ?_;clear hK K HS q1 q2 q3 Fq Fy Fp H r0 r1 r2 rl
 (try simp only[Act.put])
 refine wpAnyH_done (by as_aux_lemma=>kernel_rfl) ?_ _;have D7:Hid (Below (((p.setCell (J d (n*6+1) Z) (N I 0)).setCell (J d (n*6+1+1) Z) (U tx)).setCell (J d (n*6+1+2) Z) (Y Z 0 0)).heap.size (((p.setCell (J d (n*6+1) Z) (N I 0)).setCell (J d (n*6+1+1) Z) (U tx)).setCell (J d (n*6+1+2) Z) (Y Z 0 0)) (((p.setCell (J d (n*6+1) Z) (N I 0)).setCell (J d (n*6+1+1) Z) (U tx)).setCell (J d (n*6+1+2) Z) (Y Z 0 0)).drew):=br.drew;have QH:=ae (QO.1.below D7 lr);have K7:=ae (K6.to (QO.2.1.to (KS.of_below (X:=XN) D7 lr QO.1.lt)));have DE:=QO.2.2.1;have ur:=QO.2.2.2;have R:Hid ((((p.setCell (J d (n*6+1) Z) (N I 0)).setCell (J d (n*6+1+1) Z) (U tx)).setCell (J d (n*6+1+2) Z) (Y Z 0 0)).drew.heap[w.heap.size]?=Q (T #[N I 0,U ⟨#[]⟩,Y Z 0 0] 41 (0,0))):=by have h0:=(QO.2.1.blk _ _ _ _ bt (by decide) (by decide) (by decide) fun h=>h).trans bt;exact h0
 have QJ:Hid ((((p.setCell (J d (n*6+1) Z) (N I 0)).setCell (J d (n*6+1+1) Z) (U tx)).setCell (J d (n*6+1+2) Z) (Y Z 0 0)).drew.heap[rb]?=Q (T #[N I 0,U tx,Y Z 0 0] 41 (0,0))):=by have h0:=(QO.2.1.blk _ _ _ _ QN (by decide) (by decide) (by decide) fun h=>h).trans QN;exact h0
 have n7:=ae DE;have ro:=ae ur;clear QO DQ DE ur bt QN K6 S6 R6 fd D7;generalize (((p.setCell (J d (n*6+1) Z) (N I 0)).setCell (J d (n*6+1+1) Z) (U tx)).setCell (J d (n*6+1+2) Z) (Y Z 0 0)).drew=W7 at QH K7 R QJ ⊢;obtain⟨l,-,-,H,-⟩:=QH.box.facts;obtain⟨hg2B',hg2l',cs7,sm⟩:=af QH.rmd d rfl;have q5:W7.cell? (J d (n*6+5) Z)=Q (QA D):=cG (by have h:=QH.rmd;rw[ro.out] at h ⊢;exact h) n7 5 (by omega) rfl;have FK:W7.frozen? (J d (n*6+5) Z)=D:=by simp[World.frozen?,sm]
 have TD:=ae (QH.upd' ro n7 (j:=5) (by omega) (u:=QA QC) (m':=⟨nm,0,tx,[],Y Z 0 0,QC⟩) rfl (fun _=>⟨rfl,.inl ⟨rfl,rfl⟩⟩));have B:Hid ((W7.setCell (J d (n*6+5) Z) (QA QC)).heap[w.heap.size]?=Q (T #[N I 0,U ⟨#[]⟩,Y Z 0 0] 41 (0,0))):=(TD.2.1.blk _ _ _ _ R (by decide) (by decide) (by decide) fun h=>h).trans R;have QQ:Hid ((W7.setCell (J d (n*6+5) Z) (QA QC)).heap[rb]?=Q (T #[N I 0,U tx,Y Z 0 0] 41 (0,0))):=(TD.2.1.blk _ _ _ _ QJ (by decide) (by decide) (by decide) fun h=>h).trans QJ;have QM:=ae TD.1;have K8:=ae (K7.to TD.2.1);clear sm;go_upto_region 15 with fail;clear H q5 FK TD QH K7 R QJ;generalize W7.setCell (J d (n*6+5) Z) (QA QC)=r at QM K8 B QQ ⊢;obtain⟨ao,co,rfl⟩:=ej QM.ror;obtain⟨q,hq⟩:∃ q,q=made.length:=⟨_,rfl⟩
 have HQ:=ae hq;rw[<-hq] at FA;clear hq;obtain⟨l,-,-,-,b3,-⟩:=QM.box.facts;rw[<-HQ.out] at b3;have A9:=ae ((Qs r).alloc lr (T #[U nm] 9));have S9:=ae (QM.below A9 lr);have RO:=ae (by have h:=S9.ror;rw[<-HQ.out] at h;exact h);have Fi:w0.heap.size<=(r.alloc (T #[U nm] 9)).heap.size:=S9.lt;have HG:Hid (∀ k:E,(r.alloc (T #[U nm] 9)).grownBy k (Value.slice ao q co).ownBlock->k.heap[hb]?=(r.alloc (T #[U nm] 9)).heap[hb]?/\k.heap[w.heap.size]?=(r.alloc (T #[U nm] 9)).heap[w.heap.size]?/\k.heap[rb]?=(r.alloc (T #[U nm] 9)).heap[rb]?):=fun k hg=>by
  have ex:∀ (i:Nat) (cs:Array QB) (t:QF) (fz:Nat × Nat),(r.alloc (T #[U nm] 9)).heap[i]?=Q (Obj.cells cs t fz)->t≠9->k.heap[i]?=(r.alloc (T #[U nm] 9)).heap[i]?:=fun i cs t fz hi ht=>hg.block i (ai hi) fun e=>by obtain⟨_,_,FC,hc⟩:=af RO i e.symm;exact ht (ah hi hc)
  exact⟨ex _ _ _ _ S9.box (by decide),ex _ _ _ _ ((A9.block _ (ai B)).trans B) (by decide),ex _ _ _ _ ((A9.block _ (ai QQ)).trans QQ) (by decide)⟩
 have th:Hid ((r.alloc (T #[U nm] 9)).heap[w.heap.size]?=Q (T #[N I 0,U ⟨#[]⟩,Y Z 0 0] 41 (0,0))):=(A9.block _ (ai B)).trans B;have FP:Hid ((r.alloc (T #[U nm] 9)).heap[rb]?=Q (T #[N I 0,U tx,Y Z 0 0] 41 (0,0))):=(A9.block _ (ai QQ)).trans QQ;have FH:¬ hb=w.heap.size:=fun e=>by have h:=QM.box;unfold ShBox at h;rw[e] at h;exact absurd (ah h B) (by decide)
 have Fk:¬ w.heap.size=hb:=fun e=>FH e.symm;have Fs:¬ hb=rb:=fun e=>by have h:=QM.box;unfold ShBox at h;rw[e] at h;exact absurd (ah h QQ) (by decide)
 have hbr':¬ rb=hb:=fun e=>Fs e.symm
 go_wp2_with (first
  | (at_builtin;refine bu _ rfl (.tmp 100) (.tmp 102) 39 rfl w0.heap.size 9 i1 (U ⟨#[]⟩) 1 16 Tryz.underlying39 Fz FG Fx Fr rfl (by decide) (Y ao q co) q (bq (made.map (·.name))) (by simp[Act.eval]) RO.out (J r.heap.size 0 Z) 1 1 [U nm] (by simp[Act.eval]) rfl (li r _ _) (by simp[Value.oneCell']) (by unfold maxLen;omega) (by omega) Fi ?_;intro v9 w9 o f QL;have O9:=ae o;have G9:=ae f;have FI:=ae QL;have W:=ae (HG w9 f);obtain⟨g9,c9,cu9,rfl,Ft⟩:=o.2.resolve_left (fun h=>by omega);clear Ft o f QL;obtain⟨hbl9,-,-,-,f3,-,-,-,-,-,ff⟩:=(ShBox.blk S9.box W.1).facts;have ff3:=ff 3;obtain⟨rl,r0,r1,r2,rf⟩:=aZ (W.2.1.trans th);have rf0:=rf 0;have rf1:=rf 1;have rf2:=rf 2;obtain⟨pl,p0,p1,p2,pf⟩:=aZ (W.2.2.trans FP);clear ff rf pf)
  | fail)
 have Bk:=ae (S9.ord (x:=⟨nm,1,0,tx,0,[]⟩) (w':=w9) (v:=Y (Q (J g9 0 Z)) (q+1) c9) (by rw[<-HQ.out];exact G9) (by rw[<-HQ.out];exact O9) (by rw[<-HQ.out];exact FI));refine bp (v:=QE #[N I 0,U tx,Y Z 0 0]) (by simp[results,Tryz.results167,go_sem,r0,r1,r2]) rfl ?_;have At:=(qh w9 (J hb 3 Z) (Y (Q (J g9 0 Z)) (q+1) c9) w.heap.size Fk).trans (W.2.1.trans th);refine⟨Y (Q (J d 0 Z)) (n+1) A,Y (Q (J g9 0 Z)) (q+1) c9,rfl,?_,?_⟩
 ·rw[<-O.out]
  have x0:=Bk.1;rw[L9] at x0;replace x0:=x0.setOff At ⟨by decide,by decide,by decide,by decide⟩ z 0 (N I 0);have y0:=aw At (j:=0) (N I 0);have x1:=x0.setOff y0 ⟨by decide,by decide,by decide,by decide⟩ z 1 (U tx);exact x1.setOff (aw y0 (j:=1) (U tx)) ⟨by decide,by decide,by decide,by decide⟩ z 2 (Y Z 0 0)
 ·have k0:=(K8.to (KS.of_below (X:=XN) A9 lr QM.lt)).to Bk.2
  exact((k0.fresh lr z 0 _).fresh lr z 1 _).fresh lr z 2 _
end
section
variable {w0:E}{S:Spc}{a0 a1:Option Addr}{c0 c1 hb:Nat}{md or st:QB}{making:List ByteArray}{made:List Ent}{L:List SM}
theorem ze (C:kX w0 S a0 a1)(w:E)(nm:ByteArray)(h:SI w0 hb (Y a0 S.n0 c0) (Y a1 S.n1 c1) w making made L md or st)(qr:L.length<=100000)(K:making.length=60)(h1:fI L nm=Z)(hi:atL making nm=Z)(tg:Nat)(h3:atI (nm1 S.f1) S.n1 nm=Q tg):Calls Tryz.prog 167 #[.pointer (Q (J hb 0 Z)),U nm] w fun e w'=>jg w0 hb (Y a0 S.n0 c0) (Y a1 S.n1 c1) making L w e w' (.inr (.inr nm)):=by
 obtain⟨im,ro,n8,sm,ph⟩:=eZ kY;obtain⟨i1,hi1,hy0,hy1,hy2⟩:=eZ gL;have QK:=ae ((Qs w).alloc lr (T #[N I 0,U ⟨#[]⟩,Y Z 0 0] 41));have kr:Hid ((w.alloc (T #[N I 0,U ⟨#[]⟩,Y Z 0 0] 41)).heap[w.heap.size]?=Q (T #[N I 0,U ⟨#[]⟩,Y Z 0 0] 41 (0,0))):=eL _ _;have p:=ae (h.below QK lr);have u:w0.heap.size<=w.heap.size:=h.lt;have e1:dk (fI L nm)=-1:=by rw[h1];rfl
 obtain⟨am,cm,rfl⟩:=ej h.rmd;obtain⟨n,hn⟩:∃ n,n=L.length:=⟨_,rfl⟩
 have G:=ae hn;have CC:=ae C;have hsm:=C.ok.small;have hn1:n<=100000:=by omega
 clear h h1 hn C;obtain⟨es0,es⟩:∃ z,dk (atI (nm0 S.f0) S.n0 nm)=z:=⟨_,rfl⟩
 have et:dk (atI (nm1 S.f1) S.n1 nm)=(tg:Int):=by rw[h3];rfl
 have QN:∀ (j:Nat) (y:ByteArray),making[j]?=Q y->(y.toList == nm.toList)=D:=fun j y M=>by unfold atL at hi;rw[JH] at hi;exact hi y (D0 M)
 have n9:=ae QN;obtain⟨o,QM⟩:∃ o,o=making.length:=⟨_,rfl⟩
 have x:=ae QM;have hT0:(0:Int)<=(tg:Int):=by omega
 have hT1:=(aT h3).1;rw[<-QM] at K;obtain⟨ast,cst,rfl⟩:=ej p.rst;clear h3 hi QN QM;have QG:o=60:=by omega
 clear K;go_enter Tryz.func167,Tryz.ntmps167;go_wp2_with fail;generalize w.alloc (T #[N I 0,U ⟨#[]⟩,Y Z 0 0] 41)=b at QK kr p ⊢;refine(gJ b nm p qr).mono ?_;rintro e w1 ⟨rfl,la⟩;rw[la,e1];clear la e1;obtain⟨d,-,-,b2,-⟩:=p.box.facts;rw[<-G.out] at b2;have W:=ae ((Qs b).alloc lr (T #[U nm,N I 0,U ⟨#[]⟩,Y Z 0 0,Y Z 0 0,QA D] 239));have QP:=ae (p.below W lr);have RM:=ae (by have h:=QP.rmd;rw[<-G.out] at h;exact h);have DA:(b.alloc (T #[U nm,N I 0,U ⟨#[]⟩,Y Z 0 0,Y Z 0 0,QA D] 239)).heap.size=b.heap.size+1:=by simp
 have HG:Hid (∀ l:E,(b.alloc (T #[U nm,N I 0,U ⟨#[]⟩,Y Z 0 0,Y Z 0 0,QA D] 239)).grownBy l (Value.slice am n cm).ownBlock->l.heap[hb]?=(b.alloc (T #[U nm,N I 0,U ⟨#[]⟩,Y Z 0 0,Y Z 0 0,QA D] 239)).heap[hb]?):=fun l hg=>hg.block hb (by omega) fun e=>by obtain⟨_,_,QL,k⟩:=af RM hb e.symm;exact absurd (ah QP.box k) (by decide)
 have n6:w0.heap.size<=(b.alloc (T #[U nm,N I 0,U ⟨#[]⟩,Y Z 0 0,Y Z 0 0,QA D] 239)).heap.size:=QP.lt;have hz1':b.heap.size<(b.alloc (T #[U nm,N I 0,U ⟨#[]⟩,Y Z 0 0,Y Z 0 0,QA D] 239)).heap.size:=by omega
 clear DA
 go_upto_region 7 with (first
  | (at_builtin;refine bu _ rfl (.tmp 46) (.tmp 49) 130 rfl w0.heap.size 239 im (QE #[U ⟨#[]⟩,N I 0,U ⟨#[]⟩,Y Z 0 0,Y Z 0 0,QA D]) 6 96 Tryz.underlying130 ro n8 sm ph rfl (by decide) (Y am n cm) n (L.flatMap smV) (by simp[Act.eval]) RM.out (J b.heap.size 0 Z) 1 1 [U nm,N I 0,U ⟨#[]⟩,Y Z 0 0,Y Z 0 0,QA D] (by simp[Act.eval]) rfl (lg b _ _ _ _ _ _ _) (by simp[Value.oneCell']) (by unfold maxLen;omega) (by omega) n6 ?_;intro v2 l r g n7;have O2:=ae r;have G2:=ae g;have ld:=ae (HG l g);obtain⟨QH,A,cu2,rfl,ur⟩:=r.2.resolve_left (fun h=>by omega);clear ur r g n7;obtain⟨mv,-,-,f2,-,-,-,-,-,-,ff⟩:=(ShBox.blk QP.box ld).facts;have th:=ff 2;clear ff)
  | fail)
 have QJ:=ae (QP.addL (m:=dl nm) (w':=l) (v:=Y (Q (J QH 0 Z)) (n+1) A) (by rw[<-G.out];exact G2) (by rw[<-G.out];exact O2) rfl);have H:=ae QJ.1;have K3:Hid (KS w0.heap.size XN w (l.setCell (J hb 2 Z) (Y (Q (J QH 0 Z)) (n+1) A))):=((KS.of_below (X:=XN) QK lr u).to (KS.of_below W lr p.lt)).to QJ.2;have B:Hid ((l.setCell (J hb 2 Z) (Y (Q (J QH 0 Z)) (n+1) A)).heap[w.heap.size]?=Q (T #[N I 0,U ⟨#[]⟩,Y Z 0 0] 41 (0,0))):=by have h0:=(W.block _ (ai kr)).trans kr;exact(QJ.2.blk _ _ _ _ h0 (by decide) (by decide) (by decide) fun h=>h).trans h0
 have hL1:(L++[dl nm]).length=n+1:=by rw[cM,p7,<-G.out]
 have hLk:Hid ((L++[dl nm])[n]?=Q (dl nm)):=by rw[G.out];show _=_;rw[AT lr,JW];rfl
 clear QJ f2 th mv b2 d RM QP W HG O2 G2 ld;generalize l.setCell (J hb 2 Z) (Y (Q (J QH 0 Z)) (n+1) A)=W3 at H K3 B ⊢;obtain⟨d,b0,b1,-⟩:=H.box.facts;go_wp2_with fail;refine(fa a0 S.n0 c0 a1 S.n1 c1 S.f0 nm W3 (by omega) (CC.src.below H.bel lr)).mono ?_;rintro e w4 ⟨P,f⟩;rw[es] at P;subst P;have R:=ae (H.below f lr);have O:Hid (w4.heap[w.heap.size]?=_):=(f.block _ (ai B)).trans B;have K4:=ae (K3.to (KS.of_below (X:=XN) f lr H.lt));clear f b0 b1 d H K3 B;obtain⟨d,b0,b1,-⟩:=R.box.facts;go_wp2_with fail;refine(fb a0 S.n0 c0 a1 S.n1 c1 S.f1 nm w4 (by omega) (CC.tgt.below R.bel lr)).mono ?_;rintro e w5 ⟨P,f⟩;rw[et] at P;subst P;have q:=ae (R.below f lr);have bt:Hid (w5.heap[w.heap.size]?=Q (T #[N I 0,U ⟨#[]⟩,Y Z 0 0] 41 (0,0))):=(f.block _ (ai O)).trans O;have K5:=ae (K4.to (KS.of_below (X:=XN) f lr R.lt));clear f b0 b1 d R K4 O QK p kr;obtain⟨d,-,-,-,-,b4,b5,b6,b7,b8,QO⟩:=q.box.facts;have bf4:=QO 4;have bf5:=QO 5;have bf6:=QO 6;have bf7:=QO 7;have bf8:=QO 8;rw[<-x.out] at b4;clear QO;go_wp2_with fail;go_loop [9] (fun i=>∃ j:Nat,j<=o/\i=N I j) (fun i=>o - (intOf i).toNat);case atStart=>exact⟨0,by omega,rfl⟩
 case round =>
 obtain⟨j,hj,rfl⟩:=hrel;by_cases hlt:j<o
 ·obtain⟨y,M⟩:∃ y,making[j]?=Q y:=⟨_,gq (by have:=x.out;omega)⟩
  obtain⟨gs,QL,cus,ev,-⟩:=q.rst.2.resolve_left (fun h=>by have:=x.out;omega);rw[<-x.out] at ev;cases ev
  have dj:w5.cell? (J gs j Z)=Q (U y):=nO q.rst M;have hjm:(j:Int)<(o:Int):=by omega
  have Bk:=ae (n9 j y M);clear M;have hne:=Bk.out;go_wp2;exact⟨⟨j+1,by omega,by go_num⟩,by simp[intOf];omega⟩
 obtain rfl:j=o:=by omega
 ·subst QG
  have QQ:¬ hb=w.heap.size:=fun e=>by have h:=q.box;unfold ShBox at h;rw[e] at h;exact absurd (ah h bt) (by decide)
  have hbw':¬ w.heap.size=hb:=fun e=>QQ e.symm;obtain⟨rl,r0,r1,r2,V⟩:=aZ bt;have rf0:=V 0;have rf1:=V 1;have rf2:=V 2;clear V;go_wp2_with fail;refine bp (v:=QE #[N I 7,U nm,Y Z 0 0]) (by simp[results,Tryz.results167,go_sem,r0,r1,r2]) rfl ?_;have ex:=aw q.box (j:=8) (QA QC);have fd:=aw ex (j:=5) (N I 7);have aq:=aw fd (j:=6) (U nm);have At:=aw aq (j:=7) (Y Z 0 0);have s:w0.heap.size<=hb:=q.hbB;have k8:=(((K5.to (KS.setCell (X:=XN) _ s (.inr fun QL t fz k=>.inr (.inr (ah k q.box))) (QA QC) (j:=8))).to (KS.setCell (X:=XN) _ s (.inr fun QL t fz k=>.inr (.inr (ah k ex))) (N I 7) (j:=5))).to (KS.setCell (X:=XN) _ s (.inr fun QL t fz k=>.inr (.inr (ah k fd))) (U nm) (j:=6))).to (KS.setCell (X:=XN) _ s (.inr fun QL t fz k=>.inr (.inr (ah k aq))) (Y Z 0 0) (j:=7));refine⟨rfl,⟨_,_,_,_,_,(qh _ _ _ _ QQ).trans ((qh _ _ _ _ QQ).trans ((qh _ _ _ _ QQ).trans At)),⟨rfl,.inl ⟨rfl,rfl⟩⟩⟩,?_⟩;exact((k8.fresh lr u 0 _).fresh lr u 1 _).fresh lr u 2 _
end
theorem EW {z:Int}(h0:0<=z)(h1:z<=1048576):IntKind.i64.wrap z=z:=by rw[p9];omega
theorem Ev {w w':E}{B n:Nat}{v:QB}{b:List QB}(h:w.ownsRow B 242 3 v n b)(d:KS B XN w w'):w'.ownsRow B 242 3 v n b:=bI h fun k e=>by obtain⟨_,_,cs,f⟩:=af h k e;exact d.blk _ _ _ _ f (by decide) (by decide) (by decide) fun h=>h
theorem LExt.add (n:Nat)(L:List SM){m:SM}(g:m.done=D):LExt n L (L++[m]):=by
 refine⟨fun i f b=>⟨f,?_,rfl⟩,fun f b d=>?_⟩
 ·rw[IJ (kS.1 b).1]
  exact b
 ·rcases kP.1 b with b | b
  ·exact .inl ⟨f,b,d,rfl⟩
  ·rw[j3.1 b,g] at d
   cases d
theorem LExt.set {n k:Nat}{L l:List SM}{m d:SM}(h:LExt n L l)(p:l[k]?=Q m)(x:d.name=m.name)(u:∀ j,d.sv.ownBlock=Q j->n<=j):LExt n L (l.set k d):=by
 refine⟨fun i o b=>?_,fun o b s=>?_⟩
 ·obtain⟨t,g,q⟩:=h.nam i o b
  by_cases f:k=i
  ·subst f
   rw[p] at g;cases g
   exact⟨d,L8 (kS.1 p).1,x.trans q⟩
  ·exact⟨t,by rw[List.getElem?_set_ne f];exact g,q⟩
 ·rcases JG b with r | rfl
  ·exact h.sn o r s
  ·exact .inr u
section
variable {w0:E}{S:Spc}{a0 a1:Option Addr}{c0 c1 hb:Nat}{md or st:QB}{making:List ByteArray}{made:List Ent}{L:List SM}
theorem Bt (C:kX w0 S a0 a1)(n':Nat)(HK:mu w0 S hb (Y a0 S.n0 c0) (Y a1 S.n1 c1) n')(w:E)(nm:ByteArray)(GK:making.length+(n'+1)=60)(h:SI w0 hb (Y a0 S.n0 c0) (Y a1 S.n1 c1) w making made L md or st)(hrel:fE L making made)(hp:PG S making made)(ld:eJ S making made 1)(Gh:MT S making)(QN:aK made nm=Z)(hi:atL making nm=Z)(tg:Nat)(h3:atI (nm1 S.f1) S.n1 nm=Q tg):Calls Tryz.prog 167 #[.pointer (Q (J hb 0 Z)),U nm] w fun e w'=>jg w0 hb (Y a0 S.n0 c0) (Y a1 S.n1 c1) making L w e w' (gF nm tg (bO S (aL S n' (making++[nm])) tg 201 made [] [])):=by
 obtain⟨h1,la⟩:=zb hrel QN hi;have hmade:made.length<=50000:=by unfold eJ at ld;omega
 have Hc:L.length<=100000:=by have:=hrel.len;omega
 have GP:making.length<60:=by omega
 have ex:=(aT h3).1;obtain⟨R,hR⟩:∃ R,R=bO S (aL S n' (making++[nm])) tg 201 made [] []:=⟨_,rfl⟩
 have HR:=ae hR;obtain⟨tb,Gv,Gq,FF⟩:=C.tgt.resolve_left (by omega);have Hw:=ae Gq;have Fd:=ae FF;have F4:Hid (∀ (W:E) (FJ FZ FC:QB) (a:Option Addr) (Fy:Nat),SI w0 hb (Y a0 S.n0 c0) (Y a1 S.n1 c1) W (making++[nm]) made (L++[dl nm]) FJ FZ FC->SlIns w0 a (S.f1 tg).actN (S.f1 tg).act->Calls Tryz.prog 217 #[.pointer (Q (J hb 0 Z)),QE #[Y a (S.f1 tg).actN Fy]] W fun e w'=>nN w0 hb (Y a0 S.n0 c0) (Y a1 S.n1 c1) (making++[nm]) (L++[dl nm]) W e w' R):=by
  intro W FJ FZ FC a Fy hS Fv;rw[hR];refine Bp C n' HK made _ FJ FZ FC W a Fy tg (by rw[cM,p7];omega) hS (qu hrel la rfl rfl) (gH hp QN) ?_ ?_ ex Fv
  ·have:=fG ex (aT h3).2 QN hi
   unfold eJ at ld ⊢;omega
  ·intro t ht
   rcases kP.1 ht with ht | ht
   ·exact Gh t ht
   ·rw[j3.1 ht,h3];rfl
 have HI:=ae hi;have H0:=ae QN;have Gt:Hid (∀ l x,R=.inl (l,x)->l.length<=100000/\∀ y∈l,y.name≠nm):=by intro l x he;rw[hR] at he;have g1:=fU C.ok ex (cP C.ok n' (making++[nm])) _ _ _ _ _ _ (gH hp QN) (gn S made) rfl he;have g2:=pX (fun made Hf Gc e=>gj S n' (making++[nm]) made Hf Gc e) _ _ _ _ _ _ he;have g3:=fG ex (aT h3).2 QN hi;refine⟨?_,(iP g1.1).2⟩;unfold fq at g2;unfold eJ at ld;omega
 have Gg:=ae la;have HREL:=ae hrel;rw[<-hR];clear HK hp ld Gh QN FF Gq hR la hrel;obtain⟨im,Ic,Ho,n9,FM⟩:=eZ kY;obtain⟨i1,Gm,Gz,Gx,Gj⟩:=eZ gL;have A0:=ae ((Qs w).alloc lr (T #[N I 0,U ⟨#[]⟩,Y Z 0 0] 41));have kr:Hid ((w.alloc (T #[N I 0,U ⟨#[]⟩,Y Z 0 0] 41)).heap[w.heap.size]?=Q (T #[N I 0,U ⟨#[]⟩,Y Z 0 0] 41 (0,0))):=eL _ _;have S0:=ae (h.below A0 lr);have s:w0.heap.size<=w.heap.size:=h.lt;have e1:dk (fI L nm)=-1:=by rw[h1];rfl
 obtain⟨am,cm,rfl⟩:=ej h.rmd;obtain⟨n,hn⟩:∃ n,n=L.length:=⟨_,rfl⟩
 have HN:=ae hn;have CC:=ae C;have hsm:=C.ok.small;have hn1:n<=100000:=by omega
 clear h h1 hn C;obtain⟨es0,es⟩:∃ z,dk (atI (nm0 S.f0) S.n0 nm)=z:=⟨_,rfl⟩
 clear ex;have et:dk (atI (nm1 S.f1) S.n1 nm)=(tg:Int):=by rw[h3];rfl
 have FW:∀ (j:Nat) (y:ByteArray),making[j]?=Q y->(y.toList == nm.toList)=D:=fun j y hy=>by unfold atL at hi;rw[JH] at hi;exact hi y (D0 hy)
 have GU:=ae FW;obtain⟨ms,F3⟩:∃ ms,ms=making.length:=⟨_,rfl⟩
 have QK:=ae F3;have hT0:(0:Int)<=(tg:Int):=by omega
 have ex:=(aT h3).1;rw[<-F3] at GP;obtain⟨GA,Gs,rfl⟩:=ej S0.rst;clear h3 hi FW F3;clear GK;go_enter Tryz.func167,Tryz.ntmps167;go_wp2_with fail;generalize w.alloc (T #[N I 0,U ⟨#[]⟩,Y Z 0 0] 41)=W0 at A0 kr S0 ⊢;refine(gJ W0 nm S0 Hc).mono ?_;rintro e w1 ⟨rfl,Gk⟩;rw[Gk,e1];clear Gk e1;obtain⟨B,-,-,b2,-⟩:=S0.box.facts;rw[<-HN.out] at b2;have A1:=ae ((Qs W0).alloc lr (T #[U nm,N I 0,U ⟨#[]⟩,Y Z 0 0,Y Z 0 0,QA D] 239));have SA:=ae (S0.below A1 lr);have RM:=ae (by have h:=SA.rmd;rw[<-HN.out] at h;exact h);have Hg:(W0.alloc (T #[U nm,N I 0,U ⟨#[]⟩,Y Z 0 0,Y Z 0 0,QA D] 239)).heap.size=W0.heap.size+1:=by simp
 have HG:Hid (∀ G:E,(W0.alloc (T #[U nm,N I 0,U ⟨#[]⟩,Y Z 0 0,Y Z 0 0,QA D] 239)).grownBy G (Value.slice am n cm).ownBlock->G.heap[hb]?=(W0.alloc (T #[U nm,N I 0,U ⟨#[]⟩,Y Z 0 0,Y Z 0 0,QA D] 239)).heap[hb]?):=fun G hg=>hg.block hb (by omega) fun e=>by obtain⟨_,_,cs,hc⟩:=af RM hb e.symm;exact absurd (ah SA.box hc) (by decide)
 have GL:w0.heap.size<=(W0.alloc (T #[U nm,N I 0,U ⟨#[]⟩,Y Z 0 0,Y Z 0 0,QA D] 239)).heap.size:=SA.lt;have hz1':W0.heap.size<(W0.alloc (T #[U nm,N I 0,U ⟨#[]⟩,Y Z 0 0,Y Z 0 0,QA D] 239)).heap.size:=by omega
 clear Hg
 go_upto_region 7 with (first
  | (at_builtin;refine bu _ rfl (.tmp 46) (.tmp 49) 130 rfl w0.heap.size 239 im (QE #[U ⟨#[]⟩,N I 0,U ⟨#[]⟩,Y Z 0 0,Y Z 0 0,QA D]) 6 96 Tryz.underlying130 Ic Ho n9 FM rfl (by decide) (Y am n cm) n (L.flatMap smV) (by simp[Act.eval]) RM.out (J W0.heap.size 0 Z) 1 1 [U nm,N I 0,U ⟨#[]⟩,Y Z 0 0,Y Z 0 0,QA D] (by simp[Act.eval]) rfl (lg W0 _ _ _ _ _ _ _) (by simp[Value.oneCell']) (by unfold maxLen;omega) (by omega) GL ?_;intro v2 G QQ r n7;have O2:=ae QQ;have G2:=ae r;have Gu:=ae (HG G r);obtain⟨g2,Fq,cu2,rfl,GW⟩:=QQ.2.resolve_left (fun h=>by omega);clear GW QQ r n7;obtain⟨GI,-,-,f2,-,-,-,-,-,-,ff⟩:=(ShBox.blk SA.box Gu).facts;have Hl:=ff 2;clear ff)
  | fail)
 have SX:=ae (SA.addL (m:=dl nm) (w':=G) (v:=Y (Q (J g2 0 Z)) (n+1) Fq) (by rw[<-HN.out];exact G2) (by rw[<-HN.out];exact O2) rfl);have S3:=ae SX.1;have K3:Hid (KS w0.heap.size XN w (G.setCell (J hb 2 Z) (Y (Q (J g2 0 Z)) (n+1) Fq))):=((KS.of_below (X:=XN) A0 lr s).to (KS.of_below A1 lr S0.lt)).to SX.2;have Fl:Hid ((G.setCell (J hb 2 Z) (Y (Q (J g2 0 Z)) (n+1) Fq)).heap[w.heap.size]?=Q (T #[N I 0,U ⟨#[]⟩,Y Z 0 0] 41 (0,0))):=by have QN:=(A1.block _ (ai kr)).trans kr;exact(SX.2.blk _ _ _ _ QN (by decide) (by decide) (by decide) fun h=>h).trans QN
 have n6:(L++[dl nm]).length=n+1:=by rw[cM,p7,<-HN.out]
 have fd:Hid ((L++[dl nm])[n]?=Q (dl nm)):=by rw[HN.out];show _=_;rw[AT lr,JW];rfl
 clear SX f2 Hl GI b2 B RM SA A1 HG O2 G2 Gu;generalize G.setCell (J hb 2 Z) (Y (Q (J g2 0 Z)) (n+1) Fq)=W3 at S3 K3 Fl ⊢;obtain⟨B,b0,b1,-⟩:=S3.box.facts;go_wp2_with fail;refine(fa a0 S.n0 c0 a1 S.n1 c1 S.f0 nm W3 (by omega) (CC.src.below S3.bel lr)).mono ?_;rintro e w4 ⟨he,hB⟩;rw[es] at he;subst he;have S4:=ae (S3.below hB lr);have Ga:Hid (w4.heap[w.heap.size]?=_):=(hB.block _ (ai Fl)).trans Fl;have K4:=ae (K3.to (KS.of_below (X:=XN) hB lr S3.lt));clear hB b0 b1 B S3 K3 Fl;obtain⟨B,b0,b1,-⟩:=S4.box.facts;go_wp2_with fail;refine(fb a0 S.n0 c0 a1 S.n1 c1 S.f1 nm w4 (by omega) (CC.tgt.below S4.bel lr)).mono ?_;rintro e w5 ⟨he,hB⟩;rw[et] at he;subst he;have S5:=ae (S4.below hB lr);have FQ:Hid (w5.heap[w.heap.size]?=Q (T #[N I 0,U ⟨#[]⟩,Y Z 0 0] 41 (0,0))):=(hB.block _ (ai Ga)).trans Ga;have K5:=ae (K4.to (KS.of_below (X:=XN) hB lr S4.lt));clear hB b0 b1 B S4 K4 Ga A0 S0 kr;obtain⟨B,-,-,-,-,b4,b5,b6,b7,b8,bf⟩:=S5.box.facts;have FL:=bf 4;have GV:=bf 5;have Hq:=bf 6;have Hv:=bf 7;have Hh:=bf 8;rw[<-QK.out] at b4;clear bf;go_wp2_with fail;go_loop [9] (fun i=>∃ j:Nat,j<=ms/\i=N I j) (fun i=>ms - (intOf i).toNat);case atStart=>exact⟨0,by omega,rfl⟩
 case round =>
 obtain⟨j,hj,rfl⟩:=hrel;by_cases hlt:j<ms
 ·obtain⟨y,hy⟩:∃ y,making[j]?=Q y:=⟨_,gq (by have:=QK.out;omega)⟩
  obtain⟨gs,cs,cus,ev,-⟩:=S5.rst.2.resolve_left (fun h=>by have:=QK.out;omega);rw[<-QK.out] at ev;cases ev
  have dj:w5.cell? (J gs j Z)=Q (U y):=nO S5.rst hy;have hjm:(j:Int)<(ms:Int):=by omega
  have Gg:=ae (GU j y hy);clear hy;have la:=Gg.out;go_wp2;exact⟨⟨j+1,by omega,by go_num⟩,by simp[intOf];omega⟩
 obtain rfl:j=ms:=by omega
 ·have hI60:¬ (60:Int)<=(j:Int):=by omega
  clear b5 b6 b7 b8 GV Hq Hv Hh;have A6:=ae ((Qs w5).alloc lr (T #[U nm] 9));have P:=ae (S5.below A6 lr);have RS:=ae (by have h:=P.rst;rw[<-QK.out] at h;exact h);have FG:w0.heap.size<=(w5.alloc (T #[U nm] 9)).heap.size:=P.lt;obtain⟨q0,aa,ca,q1,-⟩:=(Fd.below P.bel lr).2 tg ex;obtain⟨-,aa',ca',Gw,Fv⟩:=Fd.2 tg ex;have Fj:=Fd.1;have e1:=(P.bel.cell (p:=(J tb (Gv+tg*2+1) Z)) Fj).trans Gw;rw[q1] at e1;simp only[EQ,CN,LN] at e1;obtain⟨rfl,rfl⟩:=e1;have G8:=ae Fv;have Q1:=ae q1;clear q0 q1 Gw Fv;have FA:Hid ((w5.alloc (T #[U nm] 9)).heap[w.heap.size]?=Q (T #[N I 0,U ⟨#[]⟩,Y Z 0 0] 41 (0,0))):=(A6.block _ (ai FQ)).trans FQ;have HG:Hid (∀ G:E,(w5.alloc (T #[U nm] 9)).grownBy G (Value.slice GA j Gs).ownBlock->G.heap[hb]?=(w5.alloc (T #[U nm] 9)).heap[hb]?/\G.heap[tb]?=(w5.alloc (T #[U nm] 9)).heap[tb]?):=fun G hg=>by
   refine⟨hg.block hb (ai P.box) fun e=>?_,hg.block tb (ll Fj FG) fun e=>?_⟩
   ·obtain⟨_,_,Fw,hc⟩:=af RS hb e.symm
    exact absurd (ah P.box hc) (by decide)
   ·have:=(af RS tb e.symm).1
    omega
  have Ia:w0.heap.size<=hb:=S5.hbB;have htbh:¬ tb=hb:=by omega
  have htbh':¬ hb=tb:=by omega
  have htI:(tg:Int)<(S.n1:Int):=by omega
  go_wp2_with (first
   | (at_builtin;refine bu _ rfl (.tmp 166) (.tmp 168) 39 rfl w0.heap.size 9 i1 (U ⟨#[]⟩) 1 16 Tryz.underlying39 Gm Gz Gx Gj rfl (by decide) (Y GA j Gs) j (bq making) (by simp[Act.eval]) RS.out (J w5.heap.size 0 Z) 1 1 [U nm] (by simp[Act.eval]) rfl (li w5 _ _) (by simp[Value.oneCell']) (by unfold maxLen;omega) (by omega) FG ?_;intro v7 w7 QQ r n7;have O7:=ae QQ;have G7:=ae r;have Gy:=ae n7;have F1:=ae (HG w7 r);obtain⟨g7,c7,cu7,rfl,Hd⟩:=QQ.2.resolve_left (fun h=>by omega);clear Hd QQ r n7;obtain⟨FH,-,f1,-,-,f4,-,-,-,-,ff⟩:=(ShBox.blk P.box F1.1).facts;have Hn:=ff 4;rw[Hw.out] at f1;have f9:=(cq (a:=(J tb (Gv+tg*2+1) Z)) F1.2).trans Q1.out;have Hx:tb<w7.heap.size:=(ll (ll Fj Ia) (J9 FH));clear ff)
   | fail)
  have SP:=ae (P.push (nm:=nm) (w':=w7) (v:=Y (Q (J g7 0 Z)) (j+1) c7) (by rw[<-QK.out];exact G7) (by rw[<-QK.out];exact O7) (by rw[<-QK.out];exact Gy));have S7:=ae SP.1;have K7:Hid (KS w0.heap.size XN w (w7.setCell (J hb 4 Z) (Y (Q (J g7 0 Z)) (j+1) c7))):=(K5.to (KS.of_below (X:=XN) A6 lr S5.lt)).to SP.2;have QO:Hid ((w7.setCell (J hb 4 Z) (Y (Q (J g7 0 Z)) (j+1) c7)).heap[w.heap.size]?=Q (T #[N I 0,U ⟨#[]⟩,Y Z 0 0] 41 (0,0))):=(SP.2.blk _ _ _ _ FA (by decide) (by decide) (by decide) fun h=>h).trans FA;clear SP f1 f4 f9 Hn FH Hx O7 G7 Gy F1 HG RS P A6 FA Q1 S5 K5 FQ b4 FL B;generalize w7.setCell (J hb 4 Z) (Y (Q (J g7 0 Z)) (j+1) c7)=W7 at S7 K7 QO ⊢;refine(F4 W7 _ _ _ aa ca S7 G8).mono ?_;clear F4;rintro e QL At;rcases R with ⟨l,x⟩ | c | d
  ·obtain⟨L1,md1,Ht,st1,gx,cx,rfl,DA,mv,Fo,GN,FK,H⟩:=At
   obtain⟨GJ,FE⟩:=Gt.out l x rfl;clear Gt;obtain⟨f,FV⟩:∃ f,f=x.1.code:=⟨_,rfl⟩
   obtain⟨g,FD⟩:∃ g,g=x.1.text:=⟨_,rfl⟩
   obtain⟨ls,Fu⟩:∃ ls,ls=x.2:=⟨_,rfl⟩
   obtain⟨ln,Fm⟩:∃ ln,ln=ls.length:=⟨_,rfl⟩
   have F0:gF nm tg (.inl (l,x))=.inl ((l++[⟨nm,3,f,g,tg,ls⟩]),⟨nm,3,f,g,tg,ls⟩):=by rw[FV,FD,Fu];rfl
   have GO:=ae F0;rw[<-Fu,<-Fm] at Fo;rw[<-FV,<-FD,<-Fu,<-Fm];clear F0 FV FD Fu;have GQ:=ae Fm;clear Fm;obtain⟨m1,n9,n8⟩:=FK.nam n (dl nm) fd;replace n8:m1.name=nm:=n8;have Id:Hid (m1.done=D):=by
    obtain⟨m2,FM,e2,e3⟩:=mv.mkg nm (I6 _ (j3.2 rfl));obtain⟨i2,F8⟩:=I7 FM;have e4:=vu mv.nod F8 n9 (e2.trans n8.symm);rw[e4,n9] at F8;cases F8
    exact e3
   have fd:=ae n9;obtain⟨QM,hN⟩:∃ QM,QM=L1.length:=⟨_,rfl⟩
   have n6:L1.length=QM:=hN.symm;have hnN:n<QM:=by rw[hN];exact(kS.1 n9).1
   obtain⟨b,DQ,cum,rfl,-⟩:=DA.rmd.2.resolve_left (fun h=>by omega);obtain⟨gp,QP,cup,rfl,Gi⟩:=DA.rst.2.resolve_left (fun h=>by rw[cM,p7] at h;omega);have hcp:j+1<=QP:=by have:=Gi.2.2.1;rw[cM,p7,<-QK.out] at this;exact this
   rw[n6,cM,p7,<-QK.out] at DA;have KW:=ae (K7.to H);have o:Hid (QL.heap[w.heap.size]?=Q (T #[N I 0,U ⟨#[]⟩,Y Z 0 0] 41 (0,0))):=(H.blk _ _ _ _ QO (by decide) (by decide) (by decide) fun h=>h).trans QO;have FP:w.heap.size<=W7.heap.size:=K7.below.size;have X8:=ae (((LExt.add w.heap.size L (m:=dl nm) rfl).trans FK FP));have Hp:Hid (w.heap.size<=gx):=j5 FP (af Fo gx rfl).1;have Hi:=ae (aI Fo (j5 s FP));have GT:=ae mv;have hw8:w.heap.size<=QL.heap.size:=KW.below.size;have FY:=ae DA;have FT:=ae n8;have GM:=ae FE;clear DA mv Fo GN FK H n8 n9 FE Gi S7 K7 QO hN;have A:=ae ((Qs QL).alloc lr (T #[N I f,U g,Y Z 0 0] 41));have kb:Hid ((QL.alloc (T #[N I f,U g,Y Z 0 0] 41)).heap[QL.heap.size]?=Q (T #[N I f,U g,Y Z 0 0] 41 (0,0))):=eL _ _;have Fs:=ae (FY.below A lr);have K9:=ae (KS.of_below (X:=XN) A lr FY.lt);have Fx:Hid ((QL.alloc (T #[N I f,U g,Y Z 0 0] 41)).heap[w.heap.size]?=Q (T #[N I 0,U ⟨#[]⟩,Y Z 0 0] 41 (0,0))):=(A.block _ (ai o)).trans o;go_upto_region 30 with fail;generalize QL.alloc (T #[N I f,U g,Y Z 0 0] 41)=O at A kb Fs K9 Fx ⊢;obtain⟨rb,Gf⟩:∃ rb,rb=QL.heap.size:=⟨_,rfl⟩
   rw[<-Gf] at kb ⊢;have hrbw:w.heap.size<=rb:=by omega
   clear Gf A FY o;obtain⟨B,-,-,-,-,b4,-,-,-,b8,bf⟩:=Fs.box.facts;have FL:=bf 4;clear bf;go_upto_region 32 with fail;have Hz:IntKind.i64.wrap (j:Int)=(j:Int):=EW (by omega) (by omega);have H6:(0:Int)<=(j:Int):=by omega
   have H9:(j:Int)<=(QP:Int):=by omega
   refine bm (fun V=>V.cell? (J hb 4 Z)=Q (Y (Q (J gp 0 Z)) (j+1) QP)) 14 (by as_aux_lemma=>kernel_rfl) ?_;have HS:Hid (O.drew.cell? (J hb 4 Z)=Q (Y (Q (J gp 0 Z)) (j+1) QP)):=b4
   iterate 10
    refine bw 0 (v:=?_) rfl rfl (by as_aux_lemma=>kernel_rfl) (fun _ _ _ h=>h) rfl ?_ HS ?_;rotate_left
    ·(intro wz s0;go_simp)
     (try with_reducible rfl)
    (try simp only[Act.put,nzL])
   refine eK (i:=10) (v:=N I (j:Int)) rfl (by as_aux_lemma=>kernel_rfl) (by as_aux_lemma=>kernel_rfl) (by as_aux_lemma=>kernel_rfl) (by as_aux_lemma=>kernel_rfl) (fun _ _ _ h=>h) rfl ?_ HS ?_
   ·intro wz s0
    go_simp
   (try simp only[Act.put,nzL])
   refine eK (i:=11) (v:=Y (Q (J gp 0 Z)) j QP) rfl (by as_aux_lemma=>kernel_rfl) (by as_aux_lemma=>kernel_rfl) (by as_aux_lemma=>kernel_rfl) (by as_aux_lemma=>kernel_rfl) (fun _ _ _ h=>h) rfl ?_ HS ?_
   ·intro wz s0
    go_simp
   (try simp only[Act.put,nzL])
   iterate 2
    refine df 12 rfl rfl (by as_aux_lemma=>kernel_rfl) (fun K hK=>?_);go_simp;refine hK _ _ (fun _=>HS) ?_;clear hK K
    (try simp only[Act.put,nzL])
   have PP:Hid (SI w0 hb (Y a0 S.n0 c0) (Y a1 S.n1 c1) (O.setCell (J hb 4 Z) (Y (Q (J gp 0 Z)) j QP)) making l L1 (Y (Q (J b 0 Z)) QM DQ) Ht (Y (Q (J gp 0 Z)) j QP)/\KS w0.heap.size XN O (O.setCell (J hb 4 Z) (Y (Q (J gp 0 Z)) j QP))):=by have h:=Fs.out;rw[QK.out] at h ⊢;exact h.pop
   refine ar (i:=14) rfl (by as_aux_lemma=>kernel_rfl) (fun K hK=>?_);go_simp;refine hK _ _ (fun h=>absurd rfl h) ?_;clear hK K HS b4 FL b8
   (try simp only[Act.put])
   refine bJ (by as_aux_lemma=>kernel_rfl) ?_ _;have D6:Hid (Below (O.setCell (J hb 4 Z) (Y (Q (J gp 0 Z)) j QP)).heap.size (O.setCell (J hb 4 Z) (Y (Q (J gp 0 Z)) j QP)) (O.setCell (J hb 4 Z) (Y (Q (J gp 0 Z)) j QP)).drew):=br.drew;have P:=ae (PP.1.below D6 lr);have K6:=ae ((K9.to PP.2).to (KS.of_below (X:=XN) D6 lr PP.1.lt));have Fk:Hid ((O.setCell (J hb 4 Z) (Y (Q (J gp 0 Z)) j QP)).drew.heap[w.heap.size]?=Q (T #[N I 0,U ⟨#[]⟩,Y Z 0 0] 41 (0,0))):=(PP.2.blk _ _ _ _ Fx (by decide) (by decide) (by decide) fun h=>h).trans Fx;have FN:Hid ((O.setCell (J hb 4 Z) (Y (Q (J gp 0 Z)) j QP)).drew.heap[rb]?=Q (T #[N I f,U g,Y Z 0 0] 41 (0,0))):=(PP.2.blk _ _ _ _ kb (by decide) (by decide) (by decide) fun h=>h).trans kb;clear PP D6 Fs K9 Fx kb Hz H6 H9 B;generalize (O.setCell (J hb 4 Z) (Y (Q (J gp 0 Z)) j QP)).drew=QH at P K6 Fk FN ⊢;have kb:=ae FN.out;clear FN;go_upto_region 33 with fail;obtain⟨B,-,-,b2,-⟩:=P.box.facts;obtain⟨rl,r0,r1,r2,-⟩:=aZ kb;obtain⟨hg2B,hg2l,Fw,F9⟩:=af P.rmd b rfl;have FX:=ae F9;have R6:Hid (QH.ownsRow w0.heap.size 239 6 (Y (Q (J b 0 Z)) QM DQ) QM (L1.flatMap smV)):=by have h:=P.rmd;rw[n6] at h;exact h
   have q1:QH.cell? (J b (n*6+1) Z)=Q (N I m1.code):=cG (by rw[n6];exact R6) fd 1 (by omega) rfl;have q2:QH.cell? (J b (n*6+1+1) Z)=Q (U m1.text):=cG (by rw[n6];exact R6) fd 2 (by omega) rfl;have q3:QH.cell? (J b (n*6+1+2) Z)=Q (Y Z 0 0):=cG (by rw[n6];exact R6) fd 3 (by omega) rfl;have qf:∀ j,QH.frozen? (J b j Z)=D:=fun j=>by simp[World.frozen?,F9]
   have Hr:=qf (n*6+1);have He:=qf (n*6+1+1);have GY:=qf (n*6+1+2);clear qf F9;have hIn:(n:Int)<(QM:Int):=by omega
   have Fi:b≠hb:=by intro e;have h:=FX.out;rw[e] at h;exact absurd (ah h P.box) (by decide)
   have M:b≠rb:=by intro e;have h:=FX.out;rw[e] at h;exact absurd (ah h kb) (by decide)
   refine wp_region_held_drew (S:=fun V=>V.cell? (J hb 2 Z)=Q (Y (Q (J b 0 Z)) QM DQ)/\V.cell? (J rb 0 Z)=Q (N I f)/\V.cell? (J rb 1 Z)=Q (U g)/\V.cell? (J rb 2 Z)=Q (Y Z 0 0)) (by as_aux_lemma=>kernel_rfl) ⟨b2,r0,r1,r2⟩ (fun hS=>?_);have HS:=ae hS;clear hS
   iterate 8
    first | refine bS 0 (v:=?_) rfl rfl (by as_aux_lemma=>kernel_rfl) (fun _ _ _ h=>h) rfl ?_ HS ?_ | refine bS 4 (v:=?_) rfl rfl (by as_aux_lemma=>kernel_rfl) (fun _ _ _ h=>h) rfl ?_ HS ?_
    rotate_left
    ·(intro wz Ie;obtain⟨s0,s1,s2,s3⟩:=Ie;go_simp)
     (try with_reducible rfl)
    (try simp only[Act.put,nzL])
   have TL:=ae (P.told n6 fd Id f g)
   have GH:Hid ((((QH.setCell (J b (n*6+1) Z) (N I f)).setCell (J b (n*6+1+1) Z) (U g)).setCell (J b (n*6+1+2) Z) (Y Z 0 0)).drew.cell? (J hb 2 Z)=Q (Y (Q (J b 0 Z)) QM DQ)/\(((QH.setCell (J b (n*6+1) Z) (N I f)).setCell (J b (n*6+1+1) Z) (U g)).setCell (J b (n*6+1+2) Z) (Y Z 0 0)).drew.cell? (J rb 0 Z)=Q (N I f)/\(((QH.setCell (J b (n*6+1) Z) (N I f)).setCell (J b (n*6+1+1) Z) (U g)).setCell (J b (n*6+1+2) Z) (Y Z 0 0)).drew.cell? (J rb 1 Z)=Q (U g)/\(((QH.setCell (J b (n*6+1) Z) (N I f)).setCell (J b (n*6+1+1) Z) (U g)).setCell (J b (n*6+1+2) Z) (Y Z 0 0)).drew.cell? (J rb 2 Z)=Q (Y Z 0 0)) :=
    ⟨(cell_far _ _ _ _ Fi).trans ((cell_far _ _ _ _ Fi).trans ((cell_far _ _ _ _ Fi).trans b2)),(cell_far _ _ _ _ M).trans ((cell_far _ _ _ _ M).trans ((cell_far _ _ _ _ M).trans r0)),(cell_far _ _ _ _ M).trans ((cell_far _ _ _ _ M).trans ((cell_far _ _ _ _ M).trans r1)),(cell_far _ _ _ _ M).trans ((cell_far _ _ _ _ M).trans ((cell_far _ _ _ _ M).trans r2))⟩
   refine bN (i:=8) rfl (by as_aux_lemma=>kernel_rfl) (fun K hK=>?_);go_simp;refine hK _ _ GH ?_;clear hK K HS q1 q2 q3 Hr He GY b2 r0 r1 r2 rl
   (try simp only[Act.put])
   refine wpAnyH_done (by as_aux_lemma=>kernel_rfl) ?_ _;have D7:Hid (Below (((QH.setCell (J b (n*6+1) Z) (N I f)).setCell (J b (n*6+1+1) Z) (U g)).setCell (J b (n*6+1+2) Z) (Y Z 0 0)).heap.size (((QH.setCell (J b (n*6+1) Z) (N I f)).setCell (J b (n*6+1+1) Z) (U g)).setCell (J b (n*6+1+2) Z) (Y Z 0 0)) (((QH.setCell (J b (n*6+1) Z) (N I f)).setCell (J b (n*6+1+1) Z) (U g)).setCell (J b (n*6+1+2) Z) (Y Z 0 0)).drew):=br.drew;have S7:=ae (TL.1.below D7 lr);have K7:=ae (K6.to (TL.2.1.to (KS.of_below (X:=XN) D7 lr TL.1.lt)));have Gr:=TL.2.2.1;have Gp:=TL.2.2.2;have QO:Hid ((((QH.setCell (J b (n*6+1) Z) (N I f)).setCell (J b (n*6+1+1) Z) (U g)).setCell (J b (n*6+1+2) Z) (Y Z 0 0)).drew.heap[w.heap.size]?=Q (T #[N I 0,U ⟨#[]⟩,Y Z 0 0] 41 (0,0))):=by have QN:=(TL.2.1.blk _ _ _ _ Fk (by decide) (by decide) (by decide) fun h=>h).trans Fk;exact QN
   have Fp:Hid ((((QH.setCell (J b (n*6+1) Z) (N I f)).setCell (J b (n*6+1+1) Z) (U g)).setCell (J b (n*6+1+2) Z) (Y Z 0 0)).drew.heap[rb]?=Q (T #[N I f,U g,Y Z 0 0] 41 (0,0))):=by have QN:=(TL.2.1.blk _ _ _ _ kb (by decide) (by decide) (by decide) fun h=>h).trans kb;exact QN
   have Fz:=ae Gr;have FI:=ae Gp;clear TL GH Gr Gp Fk kb K6 P R6 FX D7;generalize (((QH.setCell (J b (n*6+1) Z) (N I f)).setCell (J b (n*6+1+1) Z) (U g)).setCell (J b (n*6+1+2) Z) (Y Z 0 0)).drew=W7 at S7 K7 QO Fp ⊢;have OS:=ae Hi.out;obtain⟨B,-,-,b2,-⟩:=S7.box.facts;obtain⟨Gb,Gd,Hu,DE⟩:=af S7.rmd b rfl;have q4:W7.cell? (J b (n*6+4) Z)=Q m1.sv:=cG (by have h:=S7.rmd;rw[FI.out] at h ⊢;exact h) Fz 4 (by omega) rfl;have Ih:W7.frozen? (J b (n*6+4) Z)=D:=by simp[World.frozen?,DE]
   have TD:=ae (S7.upd' FI Fz (j:=4) (by omega) (u:=Y (Q (J gx 0 Z)) ln cx) (m':=⟨m1.name,f,g,ls,Y (Q (J gx 0 Z)) ln cx,D⟩) rfl (fun h=>by cases h));have ur:Hid ((W7.setCell (J b (n*6+4) Z) (Y (Q (J gx 0 Z)) ln cx)).heap[w.heap.size]?=Q (T #[N I 0,U ⟨#[]⟩,Y Z 0 0] 41 (0,0))):=(TD.2.1.blk _ _ _ _ QO (by decide) (by decide) (by decide) fun h=>h).trans QO;have th:Hid ((W7.setCell (J b (n*6+4) Z) (Y (Q (J gx 0 Z)) ln cx)).heap[rb]?=Q (T #[N I f,U g,Y Z 0 0] 41 (0,0))):=(TD.2.1.blk _ _ _ _ Fp (by decide) (by decide) (by decide) fun h=>h).trans Fp;have ro:=ae TD.1;have Fr:=ae (K7.to TD.2.1);have F7:=ae TD.2.2.1;have FU:=ae TD.2.2.2;clear DE;go_upto_region 35 with fail;clear b2 q4 Ih TD S7 K7 QO Fp Fz FI;generalize W7.setCell (J b (n*6+4) Z) (Y (Q (J gx 0 Z)) ln cx)=Bk at ro Fr ur th ⊢;have GZ:=ae (Ev OS Fr);obtain⟨B,-,-,b2,-⟩:=ro.box.facts;obtain⟨Gb,Gd,Hu,DE⟩:=af ro.rmd b rfl;have q5:Bk.cell? (J b (n*6+5) Z)=Q (QA D):=cG (by have h:=ro.rmd;rw[FU.out] at h ⊢;exact h) F7 5 (by omega) rfl;have Ib:Bk.frozen? (J b (n*6+5) Z)=D:=by simp[World.frozen?,DE]
   have TD:=ae (ro.upd' FU F7 (j:=5) (by omega) (u:=QA QC) (m':=⟨m1.name,f,g,ls,Y (Q (J gx 0 Z)) ln cx,QC⟩) rfl (fun _=>(by rw[<-GQ.out];exact GZ)));have o:Hid ((Bk.setCell (J b (n*6+5) Z) (QA QC)).heap[w.heap.size]?=Q (T #[N I 0,U ⟨#[]⟩,Y Z 0 0] 41 (0,0))):=(TD.2.1.blk _ _ _ _ ur (by decide) (by decide) (by decide) fun h=>h).trans ur;have sm:Hid ((Bk.setCell (J b (n*6+5) Z) (QA QC)).heap[rb]?=Q (T #[N I f,U g,Y Z 0 0] 41 (0,0))):=(TD.2.1.blk _ _ _ _ th (by decide) (by decide) (by decide) fun h=>h).trans th;have S8:=ae TD.1;have K8:=ae (Fr.to TD.2.1);clear DE;go_upto_region 36 with fail;clear b2 q5 Ib TD ro Fr ur th;generalize Bk.setCell (J b (n*6+5) Z) (QA QC)=W8 at S8 K8 o sm ⊢;obtain⟨ao,co,rfl⟩:=ej S8.ror;obtain⟨q,hq⟩:∃ q,q=l.length:=⟨_,rfl⟩
   have HQ:=ae hq;rw[<-hq] at GJ;clear hq;obtain⟨B,-,-,-,b3,-⟩:=S8.box.facts;rw[<-HQ.out] at b3;have A:=ae ((Qs W8).alloc lr (T #[U nm] 9));have S9:=ae (S8.below A lr);have RO:Hid ((W8.alloc (T #[U nm] 9)).ownsRow w0.heap.size 9 1 (Y ao q co) q (bq (l.map (·.name)))):=by have h:=S9.ror;rw[<-HQ.out] at h;exact h
   have GS:w0.heap.size<=(W8.alloc (T #[U nm] 9)).heap.size:=S9.lt;have HG:Hid (∀ G:E,(W8.alloc (T #[U nm] 9)).grownBy G (Value.slice ao q co).ownBlock->G.heap[hb]?=(W8.alloc (T #[U nm] 9)).heap[hb]?/\G.heap[w.heap.size]?=(W8.alloc (T #[U nm] 9)).heap[w.heap.size]?/\G.heap[rb]?=(W8.alloc (T #[U nm] 9)).heap[rb]?):=fun G hg=>by
    have la:∀ (i:Nat) (cs:Array QB) (t:QF) (fz:Nat × Nat),(W8.alloc (T #[U nm] 9)).heap[i]?=Q (Obj.cells cs t fz)->t≠9->G.heap[i]?=(W8.alloc (T #[U nm] 9)).heap[i]?:=fun i cs t fz hi ht=>hg.block i (ai hi) fun e=>by obtain⟨_,_,Fw,hc⟩:=af RO i e.symm;exact ht (ah hi hc)
    exact⟨la _ _ _ _ S9.box (by decide),la _ _ _ _ ((A.block _ (ai o)).trans o) (by decide),la _ _ _ _ ((A.block _ (ai sm)).trans sm) (by decide)⟩
   have Gn:Hid ((W8.alloc (T #[U nm] 9)).heap[w.heap.size]?=Q (T #[N I 0,U ⟨#[]⟩,Y Z 0 0] 41 (0,0))):=(A.block _ (ai o)).trans o;have Ig:Hid ((W8.alloc (T #[U nm] 9)).heap[rb]?=Q (T #[N I f,U g,Y Z 0 0] 41 (0,0))):=(A.block _ (ai sm)).trans sm;have QJ:¬ hb=w.heap.size:=fun e=>by have h:=S8.box;unfold ShBox at h;rw[e] at h;exact absurd (ah h o) (by decide)
   have Fh:¬ w.heap.size=hb:=fun e=>QJ e.symm;have Ha:¬ hb=rb:=fun e=>by have h:=S8.box;unfold ShBox at h;rw[e] at h;exact absurd (ah h sm) (by decide)
   have hbr':¬ rb=hb:=fun e=>Ha e.symm
   go_wp2_with (first
    | (at_builtin;refine bu _ rfl (.tmp 235) (.tmp 237) 39 rfl w0.heap.size 9 i1 (U ⟨#[]⟩) 1 16 Tryz.underlying39 Gm Gz Gx Gj rfl (by decide) (Y ao q co) q (bq (l.map (·.name))) (by simp[Act.eval]) RO.out (J W8.heap.size 0 Z) 1 1 [U nm] (by simp[Act.eval]) rfl (li W8 _ _) (by simp[Value.oneCell']) (by unfold maxLen;omega) (by omega) GS ?_;intro v9 w9 QQ r n7;have O9:=ae QQ;have G9:=ae r;have Hj:=ae n7;have Ft:=ae (HG w9 r);obtain⟨g9,c9,cu9,rfl,Hb⟩:=QQ.2.resolve_left (fun h=>by omega);clear Hb QQ r n7;obtain⟨hbl9,-,-,-,f3,-,-,-,-,-,ff⟩:=(ShBox.blk S9.box Ft.1).facts;have ff3:=ff 3;obtain⟨rl,r0,r1,r2,rf⟩:=aZ (Ft.2.1.trans Gn);have GF:=rf 0;have Ge:=rf 1;have Gl:=rf 2;obtain⟨pl,p0,p1,p2,pf⟩:=aZ (Ft.2.2.trans Ig);clear ff rf pf)
    | fail)
   have GE:=ae (S9.ord (x:=⟨nm,3,f,g,tg,ls⟩) (w':=w9) (v:=Y (Q (J g9 0 Z)) (q+1) c9) (by rw[<-HQ.out];exact G9) (by rw[<-HQ.out];exact O9) (by rw[<-HQ.out];exact Hj));refine bp (v:=QE #[N I f,U g,Y Z 0 0]) (by simp[results,Tryz.results167,go_sem,r0,r1,r2]) rfl ?_;have GC:=(qh w9 (J hb 3 Z) (Y (Q (J g9 0 Z)) (q+1) c9) w.heap.size Fh).trans (Ft.2.1.trans Gn);rw[GO.out];refine⟨L1.set n ⟨m1.name,f,g,ls,Y (Q (J gx 0 Z)) ln cx,QC⟩,Y (Q (J b 0 Z)) QM DQ,Y (Q (J g9 0 Z)) (q+1) c9,Y (Q (J gp 0 Z)) j QP,rfl,?_,vw GT fd FT FT rfl rfl rfl rfl rfl GM HI,X8.set fd rfl (fun k e=>by cases e;exact Hp),?_⟩
   ·have x0:=GE.1
    rw[L9,L9] at x0;replace x0:=x0.setOff GC ⟨by decide,by decide,by decide,by decide⟩ s 0 (N I f);have y0:=aw GC (j:=0) (N I f);have x1:=x0.setOff y0 ⟨by decide,by decide,by decide,by decide⟩ s 1 (U g);exact x1.setOff (aw y0 (j:=1) (U g)) ⟨by decide,by decide,by decide,by decide⟩ s 2 (Y Z 0 0)
   ·have k0:=((KW.to K8).to (KS.of_below (X:=XN) A lr S8.lt)).to GE.2
    exact((k0.fresh lr s 0 _).fresh lr s 1 _).fresh lr s 2 _
  ·obtain⟨a,k,sv,rfl,⟨s0,s1,Hk,Hm,Hy,QG,bt⟩,H⟩:=At
   have A:=ae ((Qs QL).alloc lr (T #[N I 6,U ⟨#[]⟩,Y a c.length k] 41));have K8:=ae ((K7.to H).to (KS.of_below (X:=XN) A lr (j5 s (K7.to H).below.size)));have aq:=ae (ShBox.blk QG (A.block _ (ai QG)));have qr:=ae (own_below bt A lr);have o:Hid ((QL.alloc (T #[N I 6,U ⟨#[]⟩,Y a c.length k] 41)).heap[w.heap.size]?=Q (T #[N I 0,U ⟨#[]⟩,Y Z 0 0] 41 (0,0))):=by have QN:=(H.blk _ _ _ _ QO (by decide) (by decide) (by decide) fun h=>h).trans QO;exact(A.block _ (ai QN)).trans QN
   clear H QG bt;unfold gK jw;dsimp only;go_upto_region 30 with fail;clear A;generalize QL.alloc (T #[N I 6,U ⟨#[]⟩,Y a c.length k] 41)=O at K8 aq qr o ⊢;obtain⟨B,-,-,-,-,-,b5,b6,b7,b8,-⟩:=aq.facts;have QJ:¬ hb=w.heap.size:=fun e=>by have h:=aq.out;unfold ShBox at h;rw[e] at h;exact absurd (ah h o) (by decide)
   have Fh:¬ w.heap.size=hb:=fun e=>QJ e.symm;obtain⟨rl,r0,r1,r2,rf⟩:=aZ o;have GF:=rf 0;have Ge:=rf 1;have Gl:=rf 2;clear rf;simp only[jw] at b5 b6 b7;go_wp2_with fail;refine bp (v:=QE #[N I 6,U ⟨#[]⟩,Y a c.length k]) (by simp[results,Tryz.results167,go_sem,r0,r1,r2]) rfl ?_;have FO:=(qh ((O.setCell (J w.heap.size 0 Z) (N I 6)).setCell (J w.heap.size 1 Z) (U ⟨#[]⟩)) (J w.heap.size 2 Z) (Y a c.length k) hb QJ).trans ((qh (O.setCell (J w.heap.size 0 Z) (N I 6)) (J w.heap.size 1 Z) (U ⟨#[]⟩) hb QJ).trans ((qh O (J w.heap.size 0 Z) (N I 6) hb QJ).trans aq));have ph:((Y a c.length k:QB)).ownBlock≠Q w.heap.size:=fun e=>by obtain⟨_,_,Fw,hc⟩:=af qr w.heap.size e;exact absurd (ah o hc) (by decide)
   refine⟨a,k,rfl,⟨_,_,_,_,_,FO,?_⟩,?_⟩
   ·exact az (az (az qr ph _ _) ph _ _) ph _ _
   ·exact((K8.fresh lr s 0 _).fresh lr s 1 _).fresh lr s 2 _
  ·obtain⟨sv,rfl,⟨s0,s1,Hk,Hm,Hy,QG,bt⟩,H⟩:=At
   have A:=ae ((Qs QL).alloc lr (T #[N I 7,U d,Y Z 0 0] 41));have K8:=ae ((K7.to H).to (KS.of_below (X:=XN) A lr (j5 s (K7.to H).below.size)));have aq:=ae (ShBox.blk QG (A.block _ (ai QG)));have qr:=ae (own_below bt A lr);have o:Hid ((QL.alloc (T #[N I 7,U d,Y Z 0 0] 41)).heap[w.heap.size]?=Q (T #[N I 0,U ⟨#[]⟩,Y Z 0 0] 41 (0,0))):=by have QN:=(H.blk _ _ _ _ QO (by decide) (by decide) (by decide) fun h=>h).trans QO;exact(A.block _ (ai QN)).trans QN
   clear H QG bt;unfold gK jx;dsimp only;go_upto_region 30 with fail;clear A;generalize QL.alloc (T #[N I 7,U d,Y Z 0 0] 41)=O at K8 aq qr o ⊢;obtain⟨B,-,-,-,-,-,b5,b6,b7,b8,-⟩:=aq.facts;have QJ:¬ hb=w.heap.size:=fun e=>by have h:=aq.out;unfold ShBox at h;rw[e] at h;exact absurd (ah h o) (by decide)
   have Fh:¬ w.heap.size=hb:=fun e=>QJ e.symm;obtain⟨rl,r0,r1,r2,rf⟩:=aZ o;have GF:=rf 0;have Ge:=rf 1;have Gl:=rf 2;clear rf;simp only[jx] at b5 b6 b7;go_wp2_with fail;refine bp (v:=QE #[N I 7,U d,Y Z 0 0]) (by simp[results,Tryz.results167,go_sem,r0,r1,r2]) rfl ?_;have FO:=(qh ((O.setCell (J w.heap.size 0 Z) (N I 7)).setCell (J w.heap.size 1 Z) (U d)) (J w.heap.size 2 Z) (Y Z 0 0) hb QJ).trans ((qh (O.setCell (J w.heap.size 0 Z) (N I 7)) (J w.heap.size 1 Z) (U d) hb QJ).trans ((qh O (J w.heap.size 0 Z) (N I 7) hb QJ).trans aq));have ph:((Y Z 0 0:QB)).ownBlock≠Q w.heap.size:=fun e=>by obtain⟨_,_,Fw,hc⟩:=af qr w.heap.size e;exact absurd (ah o hc) (by decide)
   refine⟨rfl,⟨_,_,_,_,_,FO,?_⟩,?_⟩
   ·exact az (az (az qr ph _ _) ph _ _) ph _ _
   ·exact((K8.fresh lr s 0 _).fresh lr s 1 _).fresh lr s 2 _
end
section
variable {w0:E}{S:Spc}{a0 a1:Option Addr}{c0 c1 hb:Nat}
theorem tB {L:List SM}{making:List ByteArray}{made:List Ent}{nm:ByteArray}(h:fE L making made)(b:∀ m∈L,m.name≠nm)(q:aK made nm=Z)(h1:atL making nm=Z){m':SM}{x:Ent}(f:m'.name=nm)(i:m'.done=QC)(l:x.name=nm)(o:m'.code=(cR x).code)(g:m'.text=(cR x).text)(k:m'.seen=x.looks)(p:m'.sv=Y Z 0 0)(n:Nat):fE ((L++[dl nm]).set L.length m') making (made++[x])/\LExt n L ((L++[dl nm]).set L.length m'):=by
 have d:(L++[dl nm])[L.length]?=Q (dl nm):=by rw[AT lr,JW];rfl
 refine⟨vw (qu h b (m:=dl nm) rfl rfl) d rfl f l i o g k (dd q) h1,(LExt.add n L (m:=dl nm) rfl).set d f fun j e=>?_⟩;rw[p] at e;cases e
theorem Bu (C:kX w0 S a0 a1):∀ n,mu w0 S hb (Y a0 S.n0 c0) (Y a1 S.n1 c1) n:=by
 have p:∀ n,(∀ m,n=m+1->mu w0 S hb (Y a0 S.n0 c0) (Y a1 S.n1 c1) m)->mu w0 S hb (Y a0 S.n0 c0) (Y a1 S.n1 c1) n:=by
  intro n z making made L md or st w nm A h hrel H d s hn;have hmade:made.length<=50000:=by unfold eJ at d;omega
  have b:L.length<=100000:=by have:=hrel.len;omega
  rw[jc];unfold dm;cases h0:aK made nm with
  | some e =>obtain⟨k,m,f1,u,QQ,B,QO⟩:=DG hrel h0;refine(Br w nm h b k m f1 u QQ).mono ?_;rintro r w' ⟨rfl,g,f⟩;exact⟨L,md,or,st,by rw[B,QO],g,hrel,LExt.refl _ _,f⟩
  | none =>
   cases h1:atL making nm with
   | some i =>
    obtain⟨k,m,f1,u,QQ,B⟩:=DJ hrel h1;have QP:=s nm B;cases h2:atI (nm1 S.f1) S.n1 nm with
    | none=>rw[h2] at QP;cases QP
    | some tg=>exact uw C w nm h b (by omega) k m f1 u QQ tg i h2 h1
   | none =>
    obtain⟨y,q⟩:=zb hrel h0 h1;dsimp only;unfold d9;cases h2:atI (nm0 S.f0) S.n0 nm with
    | some i =>refine(Bs C w nm h b (by omega) y i h2 (uv C.ok h2)).mono ?_;rintro r w' ⟨l,o,rfl,g,f⟩;have j:=tB hrel q h0 h1 (m':=⟨nm,0,(S.f0 i).text,[],Y Z 0 0,QC⟩) (x:=⟨nm,1,0,(S.f0 i).text,0,[]⟩) rfl rfl rfl rfl rfl rfl rfl w.heap.size;exact⟨_,l,o,st,rfl,g,j.1,j.2,f⟩
    | none =>
     cases h3:atI (nm1 S.f1) S.n1 nm with
     | some t =>
      cases n with
      | zero=>exact ze C w nm h b (by omega) y h1 t h3
      | succ m=>exact Bt C m (z m rfl) w nm A h hrel H d s h0 h1 t h3
     | none =>refine(zc C w nm h b (by omega) y h2 h3).mono ?_;rintro r w' ⟨l,o,rfl,g,f⟩;have j:=tB hrel q h0 h1 (m':=⟨nm,4,nm,[],Y Z 0 0,QC⟩) (x:=⟨nm,2,0,⟨#[]⟩,0,[]⟩) rfl rfl rfl rfl rfl rfl rfl w.heap.size;exact⟨_,l,o,st,rfl,g,j.1,j.2,f⟩
 intro n;induction n with
 | zero=>exact p 0 fun m e=>by omega
 | succ n G=>exact p (n+1) fun m e=>by cases e;exact G
end
end Go.Proofs.YtkdimgejdocbbaaGreatDoor.Vp
