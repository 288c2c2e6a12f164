import Derived.Test.YtkdimgejdocbbaaGreatDoorXE
import Derived.WalkSmall
set_option maxRecDepth 1000000
set_option maxHeartbeats 8000000
open Go.Addr renaming mk->J
open Go.Value renaming slice->Z,string->U,int->Q,bool->QA,agg->QE
open Option renaming none->Y,some->N
open Go.Obj renaming cells->T
open Go.IntKind renaming i64->I
open Go renaming World->E,Value->QB,TypeId->QF
open Bool renaming false->D,true->QC
open Go.Ending renaming returned->QD
namespace Go.Proofs.YtkdimgejdocbbaaGreatDoor.Vp
open RowKit
theorem tA:∀ (L:List SM) (k j:Nat) (m b:SM) (u:QB),L[k]?=N m->j<6->smV b=(smV m).set j u->(L.flatMap smV).set (k*6+j) u=(L.set k b).flatMap smV
 | [],k,j,m,b,u,h,_,_=>by simp at h
 | a :: L,0,j,m,b,u,h,hj,he=>by simp only[List.getElem?_cons_zero,E2] at h;subst h;simp only[I9,List.set_cons_zero,LZ,DC];rw[List.set_append_left _ _ (by rw[mG];exact hj),he]
 | a :: L,k+1,j,m,b,u,h,hj,he=>by simp only[List.getElem?_cons_succ] at h;simp only[I9,List.set_cons_succ];rw[MJ _ _ (by rw[mG];omega),mG,show(k+1)*6+j - 6=k*6+j by omega,tA L k j m b u h hj he]
theorem xz {w:E}{b size n g d j:Nat}{e:QF}{i:List QB}(h:w.ownsRow b e size (Z (N (J g 0 Y)) n d) n i)(u:QB):(w.setCell (J g j Y) u).ownsRow b e size (Z (N (J g 0 Y)) n d) n (i.set j u):=by
 refine⟨by rw[IT];exact h.1,?_⟩;rcases h.2 with ⟨f,h0⟩ | ⟨g',cap',k,f,hb,m,h1,h2,o,l⟩
 ·simp at f
 ·simp only[CL,E2,KN] at f
  obtain⟨⟨rfl,-⟩,-,rfl⟩:=f;refine .inr ⟨g,d,k.setIfInBounds j u,rfl,hb,aw m u,h1,h2,by simpa using o,?_⟩;rw[JN,NO,l]
section
variable {w0 w w':E}{hb:Nat}{s0 s1 md or st:QB}{making:List ByteArray}{made:List Ent}{L:List SM}
theorem SI.upd {g l k j:Nat}{m b:SM}{u:QB}(h:SI w0 hb s0 s1 w making made L (Z (N (J g 0 Y)) L.length l) or st)(QO:L[k]?=N m)(QP:j<6)(H:smV b=(smV m).set j u)(QQ:b.done=QC->w.ownsRow w0.heap.size 242 3 b.sv b.seen.length (eY b.seen)):SI w0 hb s0 s1 (w.setCell (J g (k*6+j) Y) u) making made (L.set k b) (Z (N (J g 0 Y)) (L.set k b).length l) or st/\KS w0.heap.size XN w (w.setCell (J g (k*6+j) Y) u):=by
 obtain⟨i,hgl,cs,p⟩:=af h.rmd g rfl
 have d:∀ {size n:Nat} {o:QF} {A:QB} {C:List QB},w.ownsRow w0.heap.size o size A n C->239≠o->(w.setCell (J g (k*6+j) Y) u).ownsRow w0.heap.size o size A n C:=fun y z=>az y (fun e=>by
  obtain⟨_,_,r,f⟩:=af y g e
  exact z (ah p f)) _ _
 have s:(L.set k b).length=L.length:=IT;refine⟨⟨h.bel.setCell i u,h.hbB,?_,?_,d h.ror (by decide),d h.rst (by decide),h.apart,fun x q B=>?_⟩,KS.setCell w i (.inr fun r t fz f=>.inr (.inl (ah f p))) u⟩
 ·rw[s]
  exact h.box.blk (qh _ _ _ _ fun e=>by
   have G:hb=g:=e
   exact absurd (ah h.box (G ▸ p)) (by decide))
 ·rw[s,<-tA L k j m b u QO QP H]
  exact xz h.rmd u
 ·rcases JH q with q | rfl
  ·exact d (h.seen x q B) (by decide)
  ·exact d (QQ B) (by decide)
theorem SI.addL {m:SM}{v:QB}(h:SI w0 hb s0 s1 w making made L md or st)(H:w.grownBy w' md.ownBlock)(B:w'.ownsRow w0.heap.size 239 6 v (L.length+1) (L.flatMap smV++smV m))(QL:m.done=D):SI w0 hb s0 s1 (w'.setCell (J hb 2 Y) v) making made (L++[m]) v or st/\KS w0.heap.size XN w (w'.setCell (J hb 2 Y) v):=by
 have u:=af h.rmd;have C:KS w0.heap.size XN w w':=KS.of_grown H h.lt fun j K=>by obtain⟨h1,_,g,h2⟩:=u j K;exact⟨h1,.inr fun g t fz q=>.inr (.inl (ah q h2))⟩
 have r:∀ (i:Nat) (g:Array QB) (t:QF) (fz:Nat × Nat),w.heap[i]?=N (Obj.cells g t fz)->t≠239->w'.heap[i]?=w.heap[i]?:=fun i g t fz hi M=>H.block i (ai hi) fun e=>by obtain⟨_,_,y,h2⟩:=u i e.symm;exact M (ah hi h2)
 have b:ShBox w' hb s0 s1 md or st 0 ⟨#[]⟩ (Z Y 0 0) D:=h.box.blk (r _ _ _ _ h.box (by decide));have d:∀ {size n:Nat} {s:QF} {QN:QB} {QQ:List QB},w.ownsRow w0.heap.size s size QN n QQ->s≠239->132≠s->(w'.setCell (J hb 2 Y) v).ownsRow w0.heap.size s size QN n QQ:=fun z QO G=>by
  have QP:=bI (w':=w') z fun k f=>by obtain⟨_,_,g,q⟩:=af z k f;exact r _ _ _ _ q QO
  exact az QP (fun e=>by
   obtain⟨_,_,y,l⟩:=af QP hb e
   exact G (ah b l)) _ _
 have A:(w'.setCell (J hb 2 Y) v).ownsRow w0.heap.size 239 6 v (L.length+1) (L.flatMap smV++smV m):=az B (fun e=>by
  obtain⟨_,_,y,l⟩:=af B hb e
  exact absurd (ah b l) (by decide)) _ _
 have f:KS w0.heap.size XN w' (w'.setCell (J hb 2 Y) v):=KS.setCell w' h.hbB (.inr fun g t fz q=>.inr (.inr (ah q b))) v;refine⟨⟨h.bel.trans (C.to f).below,h.hbB,aw b v,(by rw[cM,p8,IC,List.flatMap_singleton];exact A),d h.ror (by decide) (by decide),d h.rst (by decide) (by decide),h.apart,fun x o p=>?_⟩,C.to f⟩;rcases kS.1 o with o | o
 ·exact d (h.seen x o p) (by decide) (by decide)
 ·rw[j3.1 o,QL] at p
  cases p
theorem SI.ord {x:Ent}{v:QB}(h:SI w0 hb s0 s1 w making made L md or st)(A:w.grownBy w' or.ownBlock)(B:w'.ownsRow w0.heap.size 9 1 v (made.length+1) (bq (made.map (·.name))++[U x.name]))(QP:v.ownBlock=or.ownBlock∨v.ownBlock=N w.heap.size):SI w0 hb s0 s1 (w'.setCell (J hb 3 Y) v) making (made++[x]) L md v st/\KS w0.heap.size XN w (w'.setCell (J hb 3 Y) v):=by
 have u:=af h.ror;have QO:KS w0.heap.size XN w w':=KS.of_grown A h.lt fun j K=>by obtain⟨h1,_,g,h2⟩:=u j K;exact⟨h1,.inr fun g t fz l=>.inl (ah l h2)⟩
 have r:∀ (i:Nat) (g:Array QB) (t:QF) (fz:Nat × Nat),w.heap[i]?=N (Obj.cells g t fz)->t≠9->w'.heap[i]?=w.heap[i]?:=fun i g t fz hi QL=>A.block i (ai hi) fun e=>by obtain⟨_,_,m,h2⟩:=u i e.symm;exact QL (ah hi h2)
 have b:ShBox w' hb s0 s1 md or st 0 ⟨#[]⟩ (Z Y 0 0) D:=h.box.blk (r _ _ _ _ h.box (by decide));have p:∀ {size n:Nat} {s:QF} {H:QB} {QN:List QB},w.ownsRow w0.heap.size s size H n QN->s≠9->132≠s->(w'.setCell (J hb 3 Y) v).ownsRow w0.heap.size s size H n QN:=fun y G C=>by
  have o:=bI (w':=w') y fun k d=>by obtain⟨_,_,g,l⟩:=af y k d;exact r _ _ _ _ l G
  exact az o (fun e=>by
   obtain⟨_,_,m,f⟩:=af o hb e
   exact C (ah b f)) _ _
 have z:(w'.setCell (J hb 3 Y) v).ownsRow w0.heap.size 9 1 v (made.length+1) (bq (made.map (·.name))++[U x.name]):=az B (fun e=>by
  obtain⟨_,_,m,f⟩:=af B hb e
  exact absurd (ah b f) (by decide)) _ _
 have d:KS w0.heap.size XN w' (w'.setCell (J hb 3 Y) v):=KS.setCell w' h.hbB (.inr fun g t fz l=>.inr (.inr (ah l b))) v;refine⟨⟨h.bel.trans (QO.to d).below,h.hbB,aw b v,p h.rmd (by decide) (by decide),(by rw[cM,p8];simpa[bq] using z),?_,fun k q=>?_,fun x O QQ=>p (h.seen x O QQ) (by decide) (by decide)⟩,QO.to d⟩
 ·have o:w'.ownsRow w0.heap.size 9 1 st making.length (bq making):=bI h.rst fun k d=>by
   obtain⟨_,M,g,l⟩:=af h.rst k d;exact A.block k M fun e=>h.apart k e.symm d
  exact az o (fun e=>by
   obtain⟨_,_,m,f⟩:=af o hb e
   exact absurd (ah b f) (by decide)) _ _
 ·intro e
  rcases QP with a | a
  ·exact h.apart k (by rw[<-a];exact q) e
  ·rw[a] at q
   cases q
   have:=(af h.rst _ e).2.1;omega
theorem SI.push {nm:ByteArray}{v:QB}(h:SI w0 hb s0 s1 w making made L md or st)(A:w.grownBy w' st.ownBlock)(B:w'.ownsRow w0.heap.size 9 1 v (making.length+1) (bq making++[U nm]))(QP:v.ownBlock=st.ownBlock∨v.ownBlock=N w.heap.size):SI w0 hb s0 s1 (w'.setCell (J hb 4 Y) v) (making++[nm]) made L md or v/\KS w0.heap.size XN w (w'.setCell (J hb 4 Y) v):=by
 have s:=af h.rst;have QO:KS w0.heap.size XN w w':=KS.of_grown A h.lt fun j K=>by obtain⟨h1,_,g,h2⟩:=s j K;exact⟨h1,.inr fun g t fz l=>.inl (ah l h2)⟩
 have q:∀ (i:Nat) (g:Array QB) (t:QF) (fz:Nat × Nat),w.heap[i]?=N (Obj.cells g t fz)->t≠9->w'.heap[i]?=w.heap[i]?:=fun i g t fz hi QL=>A.block i (ai hi) fun e=>by obtain⟨_,_,m,h2⟩:=s i e.symm;exact QL (ah hi h2)
 have b:ShBox w' hb s0 s1 md or st 0 ⟨#[]⟩ (Z Y 0 0) D:=h.box.blk (q _ _ _ _ h.box (by decide));have p:∀ {size n:Nat} {r:QF} {H:QB} {QN:List QB},w.ownsRow w0.heap.size r size H n QN->r≠9->132≠r->(w'.setCell (J hb 4 Y) v).ownsRow w0.heap.size r size H n QN:=fun y G C=>by
  have o:=bI (w':=w') y fun k d=>by obtain⟨_,_,g,l⟩:=af y k d;exact q _ _ _ _ l G
  exact az o (fun e=>by
   obtain⟨_,_,m,f⟩:=af o hb e
   exact C (ah b f)) _ _
 have z:(w'.setCell (J hb 4 Y) v).ownsRow w0.heap.size 9 1 v (making.length+1) (bq making++[U nm]):=az B (fun e=>by
  obtain⟨_,_,m,f⟩:=af B hb e
  exact absurd (ah b f) (by decide)) _ _
 have d:KS w0.heap.size XN w' (w'.setCell (J hb 4 Y) v):=KS.setCell w' h.hbB (.inr fun g t fz l=>.inr (.inr (ah l b))) v;refine⟨⟨h.bel.trans (QO.to d).below,h.hbB,aw b v,p h.rmd (by decide) (by decide),?_,(by rw[cM,p8];simpa[bq] using z),fun k u=>?_,fun x O QQ=>p (h.seen x O QQ) (by decide) (by decide)⟩,QO.to d⟩
 ·have o:w'.ownsRow w0.heap.size 9 1 or made.length (bq (made.map (·.name))):=bI h.ror fun k d=>by
   obtain⟨_,M,g,l⟩:=af h.ror k d;exact A.block k M fun e=>h.apart k d e.symm
  exact az o (fun e=>by
   obtain⟨_,_,m,f⟩:=af o hb e
   exact absurd (ah b f) (by decide)) _ _
 ·intro e
  rcases QP with a | a
  ·exact h.apart k u (by rw[<-a];exact e)
  ·rw[a] at e
   cases e
   have:=(af h.ror _ u).2.1;omega
theorem SI.pop {nm:ByteArray}{g d:Nat}(h:SI w0 hb s0 s1 w (making++[nm]) made L md or (Z (N (J g 0 Y)) (making.length+1) d)):SI w0 hb s0 s1 (w.setCell (J hb 4 Y) (Z (N (J g 0 Y)) making.length d)) making made L md or (Z (N (J g 0 Y)) making.length d)/\KS w0.heap.size XN w (w.setCell (J hb 4 Y) (Z (N (J g 0 Y)) making.length d)):=by
 have b:∀ {size n:Nat} {i:QF} {k:QB} {m:List QB},w.ownsRow w0.heap.size i size k n m->132≠i->(w.setCell (J hb 4 Y) (Z (N (J g 0 Y)) making.length d)).ownsRow w0.heap.size i size k n m:=fun f l=>az f (fun e=>by
  obtain⟨_,_,cs2,j⟩:=af f hb e
  exact l (ah h.box j)) _ _
 have hst:=h.rst;rw[cM,p8] at hst;refine⟨⟨h.bel.setCell h.hbB _,h.hbB,aw h.box _,b h.rmd (by decide),b h.ror (by decide),b (ownsRow_pop (last:=[U nm]) (by simp[bq]) (by simpa[bq] using hst)) (by decide),h.apart,fun x q p=>b (h.seen x q p) (by decide)⟩,KS.setCell w h.hbB (.inr fun cs t fz o=>.inr (.inr (ah o h.box))) _⟩
end
theorem vu {L:List SM}(h:L.Pairwise fun m b=>m.name≠b.name){i j:Nat}{m b:SM}(hi:L[i]?=N m)(p:L[j]?=N b)(e:m.name=b.name):i=j:=by
 rw[D0] at h;obtain⟨k,g⟩:=o3.1 hi;obtain⟨f,d⟩:=o3.1 p;rcases LX i j with n | o | l
 ·exact absurd (by rw[g,d];exact e) (h i j k f n)
 ·exact o
 ·exact absurd (by rw[g,d];exact e.symm) (h j i f k l)
theorem vv {L:List SM}(l:L.Pairwise fun m i=>m.name≠i.name){m:SM}(g:m∈L){nm:ByteArray}(e:m.name=nm):∃ k,fI L nm=N k/\L[k]?=N m:=by
 obtain⟨k,b⟩:=I8 g;refine⟨k,tr b (by rw[e];simp) fun j f hj d=>?_,b⟩;cases h:(f.name.toList == nm.toList) with
 | false=>rfl
 | true =>have:=vu l d b (by rw[bytes_beq h,e]);omega
section
variable {L:List SM}{making:List ByteArray}{made:List Ent}{nm:ByteArray}
theorem DG (h:fE L making made){e:Ent}(g:aK made nm=N e):∃ k m,fI L nm=N k/\L[k]?=N m/\m.done=QC/\m.code=(cR e).code/\m.text=(cR e).text:=by obtain⟨h1,h2⟩:=fB g;obtain⟨m,j,l,f,n,b,_⟩:=h.got e h1;obtain⟨k,d,i⟩:=vv h.nod j (l.trans h2);exact⟨k,m,d,i,f,n,b⟩
theorem DJ (h:fE L making made){i:Nat}(hi:atL making nm=N i):∃ k m,fI L nm=N k/\L[k]?=N m/\m.done=D/\nm∈making:=by
 have d:=hi;unfold atL at d;obtain⟨f,h1,_⟩:=JR.1 d;have b:nm∈making:=by rw[<-bytes_beq h1];exact gz f
 obtain⟨m,l,n,o⟩:=h.mkg nm b;obtain⟨k,g,j⟩:=vv h.nod l n;exact⟨k,m,g,j,o,b⟩
theorem zb (h:fE L making made)(f:aK made nm=Y)(h1:atL making nm=Y):fI L nm=Y/\∀ m∈L,m.name≠nm:=by
 have b:∀ m∈L,m.name≠nm:=fun m d e=>by
  rcases h.all m d with ⟨x,g,i⟩ | h2
  ·exact dd f x g (i.trans e)
  ·exact jd h1 _ h2 e
 refine⟨vj fun j m hj d=>?_,b⟩;cases h2:(m.name.toList == nm.toList) with
 | false=>rfl
 | true=>exact absurd (bytes_beq h2) (b m (EQ d))
theorem qu (h:fE L making made)(i:∀ m∈L,m.name≠nm){m:SM}(g:m.name=nm)(j:m.done=D):fE (L++[m]) (making++[nm]) made:=by
 refine⟨?_,by simp[h.len];omega,fun x l=>?_,fun t f=>?_,fun y d=>?_⟩
 ·rw[IY]
  exact⟨h.nod,LP _ _,fun a k b hb=>by rw[j3.1 hb,g];exact i a k⟩
 ·obtain⟨y,d,r⟩:=h.got x l
  exact⟨y,IJ _ d,r⟩
 ·rcases kS.1 f with f | f
  ·obtain⟨y,d,r⟩:=h.mkg t f
   exact⟨y,IJ _ d,r⟩
  ·exact⟨m,I7 _ (j3.2 rfl),by rw[g,j3.1 f],j⟩
 ·rcases kS.1 d with d | d
  ·exact(h.all y d).imp id fun h=>IJ _ h
  ·rw[j3.1 d,g]
   exact .inr (I7 _ (j3.2 rfl))
theorem vw {f:List Ent}{k:Nat}{m b:SM}{x:Ent}(h:fE L (making++[nm]) f)(s:L[k]?=N m)(G:m.name=nm)(n:b.name=nm)(A:x.name=nm)(O:b.done=QC)(QL:b.code=(cR x).code)(K:b.text=(cR x).text)(QN:b.seen=x.looks)(M:∀ y∈f,y.name≠nm)(h1:atL making nm=Y):fE (L.set k b) making (f++[x]):=by
 have B:=(o3.1 s).1;have QP:=(o3.1 s).2;have l:∀ y∈L,y.name≠nm->y∈L.set k b:=fun y d C=>by
  obtain⟨i,hi⟩:=I8 d;refine EQ (i:=i) ?_;rw[List.getElem?_set_ne fun e=>?_]
  ·exact hi
  ·subst e
   rw[s] at hi;cases hi
   exact C G
 have u:b∈L.set k b:=EQ (MC B);refine⟨?_,by rw[IT,h.len];simp;omega,fun y d=>?_,fun t q=>?_,fun y d=>?_⟩
 ·have o:=h.nod
  rw[D0] at o ⊢;have p:∀ (i:Nat) (hi:i<(L.set k b).length),(L.set k b)[i].name=(L[i]'(by simpa using hi)).name:=fun i hi=>by
   rw[List.getElem_set];split
   ·rename_i e;subst e;rw[QP,G,n]
   ·rfl
  intro i j hi QQ H;rw[p i hi,p j QQ];exact o i j (by simpa using hi) (by simpa using QQ) H
 ·rcases kS.1 d with d | d
  ·obtain⟨z,hz,g,r⟩:=h.got y d
   exact⟨z,l z hz (by rw[g];exact M y d),g,r⟩
  ·rw[j3.1 d]
   exact⟨b,u,by rw[n,A],O,QL,K,QN⟩
 ·obtain⟨z,hz,g,r⟩:=h.mkg t (IJ _ q)
  exact⟨z,l z hz (by rw[g];exact jd h1 t q),g,r⟩
 ·rcases JH d with QO | rfl
  ·rcases h.all y QO with ⟨z,hz,e⟩ | h2
   ·exact .inl ⟨z,IJ _ hz,e⟩
   ·rcases kS.1 h2 with h2 | h2
    ·exact .inr h2
    ·exact .inl ⟨x,I7 _ (j3.2 rfl),by rw[A,j3.1 h2]⟩
  ·exact .inl ⟨x,I7 _ (j3.2 rfl),by rw[A,n]⟩
end
theorem uv {S:Spc}(h:SpcOk S){nm:ByteArray}{i:Nat}(hi:atI (nm0 S.f0) S.n0 nm=N i):atI (nm1 S.f1) S.n1 nm=Y:=by
 have b:=h.chk;unfold aU at b;split at b;· omega
 split at b;· omega
 split at b;· omega
 split at b;· omega
 split at b;· omega
 split at b;· omega
 rename_i d;obtain⟨h1,h2⟩:=aT hi;have:=gG (Bool.eq_false_iff.2 d) h1;rw[h2] at this;exact tm this
end Go.Proofs.YtkdimgejdocbbaaGreatDoor.Vp
namespace Go.Proofs.YtkdimgejdocbbaaGreatDoor.Vp
open RowKit Ca
section
variable {w0:E}{S:Spc}{a0 a1:Option Addr}{c0 c1 hb:Nat}{md or st:QB}{making:List ByteArray}{made:List Ent}{L:List SM}
theorem Br (w:E)(nm:ByteArray)(h:SI w0 hb (Z a0 S.n0 c0) (Z a1 S.n1 c1) w making made L md or st)(r:L.length<=100000)(k:Nat)(m:SM)(h1:fI L nm=N k)(h2:L[k]?=N m)(QQ:m.done=QC):Calls Tryz.prog 167 #[.pointer (N (J hb 0 Y)),U nm] w fun e w'=>e=QD (QE #[Q I m.code,U m.text,Z Y 0 0])/\SI w0 hb (Z a0 S.n0 c0) (Z a1 S.n1 c1) w' making made L md or st/\KS w0.heap.size XN w w':=by
 have q:=ae ((Qs w).alloc lr (T #[Q I 0,U ⟨#[]⟩,Z Y 0 0] 41));have kr:Hid ((w.alloc (T #[Q I 0,U ⟨#[]⟩,Z Y 0 0] 41)).heap[w.heap.size]?=N (T #[Q I 0,U ⟨#[]⟩,Z Y 0 0] 41 (0,0))):=eL _ _;have d:=ae (h.below q lr);have b:w0.heap.size<=w.heap.size:=h.lt;have hkl:=(o3.1 h2).1;obtain⟨g,cap,cur,rfl,-⟩:=h.rmd.2.resolve_left (fun h=>by omega);have x:dk (fI L nm)=(k:Int):=by rw[h1];rfl
 have o:=ae h2;obtain⟨n,t⟩:∃ n,n=L.length:=⟨_,rfl⟩
 have A:=ae t;have hkn:k<n:=by omega
 clear h h1 h2 t;go_enter Tryz.func167,Tryz.ntmps167;go_wp2_with fail;generalize w.alloc (T #[Q I 0,U ⟨#[]⟩,Z Y 0 0] 41)=f at q kr d ⊢;refine(gJ f nm d r).mono ?_;rintro e w1 ⟨rfl,p⟩;rw[p];clear p;rw[x];obtain⟨hbl,-,-,B,-⟩:=d.box.facts;have d1:f.cell? (J g (k*6+1) Y)=N (Q I m.code):=cG d.rmd o 1 (by omega) rfl;have d2:f.cell? (J g (k*6+2) Y)=N (U m.text):=cG d.rmd o 2 (by omega) rfl;have d3:f.cell? (J g (k*6+3) Y)=N (Z Y 0 0):=cG d.rmd o 3 (by omega) rfl;have d5:f.cell? (J g (k*6+5) Y)=N (QA QC):=by have:=cG d.rmd o.out 5 (by omega) (u:=QA m.done) rfl;rw[QQ] at this;exact this
 rw[<-A.out] at B;obtain⟨rl,r0,r1,C,l⟩:=aZ kr;have rf0:=l 0;have rf1:=l 1;have rf2:=l 2;have hI0:(0:Int)<=(k:Int):=by omega
 have hI1:(k:Int)<(n:Int):=by omega
 clear l;go_wp2_with fail;refine bp (v:=QE #[Q I m.code,U m.text,Z Y 0 0]) (by simp[results,Tryz.results167,go_sem,r0,r1,C]) rfl ⟨rfl,?_,?_⟩
 ·have z:=d.setOff kr.out ⟨by decide,by decide,by decide,by decide⟩ b 0 (Q I m.code)
  have s:=aw kr.out (j:=0) (Q I m.code);have y:=z.setOff s ⟨by decide,by decide,by decide,by decide⟩ b 1 (U m.text);exact y.setOff (aw s (j:=1) (U m.text)) ⟨by decide,by decide,by decide,by decide⟩ b 2 (Z Y 0 0)
 ·refine((((KS.of_below (X:=XN) q lr b).trans (KS.setCell (X:=fun i=>i=w.heap.size) _ b (Or.inl rfl) _) ?_).trans (KS.setCell (X:=fun i=>i=w.heap.size) _ b (Or.inl rfl) _) ?_).trans (KS.setCell (X:=fun i=>i=w.heap.size) _ b (Or.inl rfl) _) ?_)
  all_goals
   intro i hi h;have e2:i=w.heap.size:=h;omega
theorem nO {w:E}{b g d n:Nat}{M:List ByteArray}(h:w.ownsRow b 9 1 (Z (N (J g 0 Y)) n d) n (bq M)){i:Nat}{t:ByteArray}(f:M[i]?=N t):w.cell? (J g i Y)=N (U t):=by have h1:=h.cells (g:=g) rfl i (U t) (by rw[bq,IE,f];rfl);rw[addr_add,DC] at h1;exact h1
theorem uw (C:kX w0 S a0 a1)(w:E)(nm:ByteArray)(h:SI w0 hb (Z a0 S.n0 c0) (Z a1 S.n1 c1) w making made L md or st)(Fm:L.length<=100000)(DA:making.length<=60)(k:Nat)(m:SM)(h1:fI L nm=N k)(h2:L[k]?=N m)(hd:m.done=D)(tg A:Nat)(ht:atI (nm1 S.f1) S.n1 nm=N tg)(hi:atL making nm=N A):Calls Tryz.prog 167 #[.pointer (N (J hb 0 Y)),U nm] w fun e w'=>jg w0 hb (Z a0 S.n0 c0) (Z a1 S.n1 c1) making L w e w' (.inr (.inl (making.drop A))):=by
 obtain⟨i1,Fo,Fy,Fw,FC⟩:=eZ gL;have A0:=ae ((Qs w).alloc lr (T #[Q I 0,U ⟨#[]⟩,Z Y 0 0] 41));have kr:Hid ((w.alloc (T #[Q I 0,U ⟨#[]⟩,Z Y 0 0] 41)).heap[w.heap.size]?=N (T #[Q I 0,U ⟨#[]⟩,Z Y 0 0] 41 (0,0))):=eL _ _;have QK:=ae (h.below A0 lr);have l:w0.heap.size<=w.heap.size:=h.lt;have hkl:=(o3.1 h2).1;obtain⟨g,Fr,cur,rfl,-⟩:=h.rmd.2.resolve_left (fun h=>by omega);have e1:dk (fI L nm)=(k:Int):=by rw[h1];rfl
 have M:dk (atI (nm1 S.f1) S.n1 nm)=(tg:Int):=by rw[ht];rfl
 have Fv:A<making.length/\(∃ x,making[A]?=N x/\(x.toList == nm.toList)=QC)/\∀ (j:Nat) (y:ByteArray),j<A->making[j]?=N y->(y.toList == nm.toList)=D:=by unfold atL at hi;obtain⟨q1,q2,q3⟩:=JR.1 hi;refine⟨q1,⟨_,gq q1,q2⟩,fun j y hj V=>?_⟩;have:=q3 j hj;rw[KH] at this;rw[(o3.1 V).2] at this;exact this
 obtain⟨Fi,⟨xi,th,n9⟩,aq⟩:=Fv;obtain⟨QJ,f,cus,rfl,sm⟩:=h.rst.2.resolve_left (fun h=>by omega);have FE:making.length<=f:=sm.2.2.1;have H2:=ae h2;have FG:=ae th;have Fk:=ae aq;have FD:=ae n9;obtain⟨n,hn⟩:∃ n,n=L.length:=⟨_,rfl⟩
 have HN:=ae hn;have hkn:k<n:=by omega
 obtain⟨d,bt⟩:∃ d,d=making.length:=⟨_,rfl⟩
 have B:=ae bt;have CC:=ae C;have hsm:=C.ok.small;rw[<-bt] at Fi DA FE;clear h h1 h2 hn C ht hi sm bt th n9 aq;go_enter Tryz.func167,Tryz.ntmps167;go_wp2_with fail;generalize w.alloc (T #[Q I 0,U ⟨#[]⟩,Z Y 0 0] 41)=W0 at A0 kr QK ⊢;refine(gJ W0 nm QK Fm).mono ?_;rintro e w1 ⟨rfl,Bk⟩;rw[Bk];clear Bk;rw[e1];obtain⟨QM,b0,b1,b2,-⟩:=QK.box.facts;have d5:W0.cell? (J g (k*6+5) Y)=N (QA D):=by have:=cG QK.rmd H2.out 5 (by omega) (u:=QA m.done) rfl;rw[hd] at this;exact this
 rw[<-HN.out] at b2;have hI0:(0:Int)<=(k:Int):=by omega
 have hI1:(k:Int)<(n:Int):=by omega
 go_wp2_with fail;refine(fa a0 S.n0 c0 a1 S.n1 c1 S.f0 nm W0 (by omega) (CC.src.below QK.bel lr)).mono ?_;rintro e w1 ⟨rfl,s⟩;have S1:=ae (QK.below s lr);have At:Hid (w1.heap[w.heap.size]?=_):=(s.block _ (ai kr)).trans kr;have K1:=ae (A0.trans (s.mono A0.size));clear s b0 b1 b2 QM d5;obtain⟨QM,b0,b1,-⟩:=S1.box.facts;go_wp2_with fail;refine(fb a0 S.n0 c0 a1 S.n1 c1 S.f1 nm w1 (by omega) (CC.tgt.below S1.bel lr)).mono ?_;rintro e QN ⟨he,s⟩;rw[M] at he;subst he;have r:=ae (S1.below s lr);have mv:Hid (QN.heap[w.heap.size]?=_):=(s.block _ (ai At)).trans At;have K2:=ae (K1.trans (s.mono K1.size));clear s b0 b1 QM;obtain⟨QM,-,-,-,-,b4,b5,b6,b7,b8,bf⟩:=r.box.facts;have Fl:=bf 5;have FH:=bf 6;have FI:=bf 7;have Fx:=bf 8;rw[<-B.out] at b4;clear bf;have hT0:(0:Int)<=(tg:Int):=by omega
 go_wp2_with fail;go_loop [9] (fun i=>∃ j:Nat,j<=A/\i=Q I j) (fun i=>A - (intOf i).toNat);case atStart=>exact⟨0,by omega,rfl⟩
 case round =>
  obtain⟨j,hj,rfl⟩:=hrel;obtain⟨y,V⟩:∃ y,making[j]?=N y:=⟨_,gq (by have:=B.out;omega)⟩
  have dj:QN.cell? (J QJ j Y)=N (U y):=nO r.rst V;have hjm:(j:Int)<(d:Int):=by omega
  have HY:=ae V;clear V;by_cases FA:j<A
  ·have Fu:=Fk.out j y FA HY.out
   have HNE:=ae Fu;go_wp2;exact⟨⟨j+1,by omega,by go_num⟩,by simp[intOf];omega⟩
  ·obtain rfl:j=A:=by omega
   have hye:(y.toList == nm.toList)=QC:=by
    have:=HY.out;rw[FG.out] at this;cases this
    exact FD
   go_upto_region 22 with fail;clear dj b4 b5 b6 b7 b8 Fl FH FI Fx;have n7:=ae (aw r.box (j:=8) (QA QC))
   have R3:Hid ((QN.setCell (J hb 8 Y) (QA QC)).ownsRow w0.heap.size 9 1 (Z (N (J QJ 0 Y)) making.length f) making.length (bq making)):=az r.rst (fun e=>by
    obtain⟨_,_,qr,QQ⟩:=af r.rst hb e
    exact absurd (ah r.box QQ) (by decide)) _ _
   have fd:hb≠w.heap.size:=fun e=>absurd (ah r.box (e ▸ mv.out)) (by decide);have P:Hid ((QN.setCell (J hb 8 Y) (QA QC)).heap[w.heap.size]?=_):=(qh _ _ _ _ (Ne.symm fd)).trans mv;have R:Hid (KS w0.heap.size XN w (QN.setCell (J hb 8 Y) (QA QC))):=(KS.of_below (X:=XN) K2 lr l).to (KS.setCell QN r.hbB (.inr fun f t fz QL=>.inr (.inr (ah QL r.box))) _);have QG:w0.heap.size<=hb:=r.hbB;generalize QN.setCell (J hb 8 Y) (QA QC)=b at n7 R3 P R ⊢;have G:Hid (ShBox b hb (Z a0 S.n0 c0) (Z a1 S.n1 c1) (Z (N (J g 0 Y)) L.length Fr) or (Z (N (J QJ 0 Y)) making.length f) 0 ⟨#[]⟩ (Z Y 0 0) QC):=n7.out;obtain⟨Fh,-,-,-,-,b4,-⟩:=G.facts;rw[<-B.out] at b4;have LO:=ae (jW b 9 1);have A4:=ae ((Qs b).alloc lr (T #[] 9));have Fs:Hid (∀ q u,(bq (making.drop j))[q]?=N u->(b.alloc (T #[] 9)).cell? (((J QJ j Y):Addr).add q)=N u):=fun q u hq=>by have h1:=(own_below R3 A4 lr).cells (g:=QJ) rfl (j+q) u (by rw[<-hq,bq,bq,IE,IE,NJ]);rw[addr_add,DC] at h1;rw[addr_add];exact h1
   have hjc:¬ f=j:=by omega
   have hI2:(0:Int)<=(j:Int):=by omega
   have hI3:(j:Int)<=(d:Int):=by omega
   have hI4:(d:Int)<=(f:Int):=by omega
   have n8:(bq (making.drop j)).length=(d - j)*1:=by rw[bq,I4,II,<-B.out,Nat.mul_one]
   have Fq:=ae n8;have la:∀ u∈bq (making.drop j),u.oneCell'=QC:=fun u hu=>by rw[bq,ID] at hu;obtain⟨t,_,rfl⟩:=hu;rfl
   have DQ:=ae la;clear n8 la;have HG:Hid (∀ p:E,(b.alloc (T #[] 9)).grownBy p (N b.heap.size)->p.heap[hb]?=b.heap[hb]?/\p.heap[w.heap.size]?=b.heap[w.heap.size]?):=fun p hg=>by
    have hz:(b.alloc (T #[] 9)).heap.size=b.heap.size+1:=by simp
    have Fz:=ai P.out;exact⟨(hg.block hb (by omega) (fun e=>by have M:hb=b.heap.size:=H8 e;omega)).trans (A4.block hb Fh),(hg.block w.heap.size (by omega) (fun e=>by have M:w.heap.size=b.heap.size:=H8 e;omega)).trans (A4.block _ Fz)⟩
   have ld:b.heap.size<=(b.alloc (T #[] 9)).heap.size:=by simp
   have DE:(0+(d - j))*16<=140737488355328:=by omega
   have Fd:0+(d - j)<=maxLen:=by unfold maxLen;omega
   have Fj:0+(d - j)≠0:=by omega
   go_wp2_with (first
    | (at_builtin;refine bu _ rfl (.tmp 129) (.tmp 135) 39 rfl b.heap.size 9 i1 (U ⟨#[]⟩) 1 16 Tryz.underlying39 Fo Fy Fw FC rfl (by decide) (Z (N (J b.heap.size 0 Y)) 0 0) 0 [] (by simp[Act.eval]) LO.out (J QJ j Y) (d - j) (f - j) (bq (making.drop j)) (by simp[Act.eval]) Fq.out Fs.out DQ.out Fd DE ld ?_;intro v4 p H o Fp;have O4:=ae H;have ur:=ae (HG p o).1;have ph:=ae (HG p o).2;have G4:=ae o;obtain⟨QP,c4,cu4,rfl,FF⟩:=H.2.resolve_left (fun h=>Fj h.2);clear FF H o Fp;obtain⟨hbl4,-,-,-,-,-,f5,f6,f7,-,ff⟩:=(ShBox.blk G ur).facts;have ff5:=ff 5;have ff6:=ff 6;have ff7:=ff 7;obtain⟨rl,r0,r1,r2,rf⟩:=aZ (ph.trans P);have rf0:=rf 0;have rf1:=rf 1;have rf2:=rf 2;have hbw2:¬ w.heap.size=hb:=(fun e=>fd e.symm);have K:¬ hb=w.heap.size:=fd;clear ff rf)
    | fail)
   refine bp (v:=QE #[Q I 6,U ⟨#[]⟩,Z (N (J QP 0 Y)) (d - j) c4]) (by simp[results,Tryz.results167,go_sem,r0,r1,r2]) rfl ?_;have ex:(making.drop j).length=d - j:=by rw[II,<-B.out]
   have QH:=ur.trans G.out;have ro:=aw QH (j:=5) (Q I 6);have n6:=aw ro (j:=6) (U ⟨#[]⟩);have Ft:=aw n6 (j:=7) (Z (N (J QP 0 Y)) (d - j) c4);have QO:(Value.slice (N (J QP 0 Y)) (d - j) c4).ownBlock≠N hb:=fun e=>by obtain⟨_,_,qr,QQ⟩:=af O4 hb (by simpa[Value.ownBlock] using e);exact absurd (ah QH QQ) (by decide)
   have O:(Value.slice (N (J QP 0 Y)) (d - j) c4).ownBlock≠N w.heap.size:=fun e=>by obtain⟨_,_,qr,QQ⟩:=af O4 w.heap.size (by simpa[Value.ownBlock] using e);exact absurd (ah (ph.trans P) QQ) (by decide)
   have o4:p.ownsRow w0.heap.size 9 1 (Z (N (J QP 0 Y)) (d - j) c4) (d - j) (bq (making.drop j)):=by have h1:=O4.out;rw[DC,IN] at h1;exact aI h1 (j5 l R.below.size)
   have k4:KS w0.heap.size XN w p:=(R.to (KS.of_below (X:=XN) A4 lr (j5 l R.below.size))).to (KS.of_grown G4 (j5 (j5 l R.below.size) ld) fun q hq=>by
    have M:q=b.heap.size:=(H8 hq).symm;refine⟨by rw[M];exact j5 l R.below.size,.inr fun f t fz QL=>?_⟩;rw[M] at QL
    exact .inl (ah QL (eL b _)))
   have z:∀ (W:E) (f:Array QB) (t:QF) (fz:Nat × Nat),W.heap[hb]?=p.heap[hb]?∨(∃ c2,W.heap[hb]?=N (T c2 132 (0,0)))->W.heap[hb]?=N (T f t fz)->t=9∨t=239∨t=132:=fun W f t fz hW QL=>by
    rcases hW with hW | ⟨c2,hW⟩
    ·exact .inr (.inr (ah QL (hW.trans QH)))
    ·exact .inr (.inr (ah QL hW))
   refine⟨N (J QP 0 Y),c4,by rw[ex];rfl,⟨_,_,_,_,_,(qh _ _ _ _ K).trans ((qh _ _ _ _ K).trans ((qh _ _ _ _ K).trans (by rw[ex];exact Ft))),?_⟩,?_⟩
   ·show World.ownsRow _ _ _ _ _ (making.drop j).length _
    rw[ex];exact az (az (az (az (az (az o4 QO _ _) QO _ _) QO _ _) O _ _) O _ _) O _ _
   ·have k7:=((k4.to (KS.setCell (X:=XN) p QG (.inr fun f t fz=>z _ f t fz (.inl rfl)) (Q I 6) (j:=5))).to (KS.setCell (X:=XN) _ QG (.inr fun f t fz=>z _ f t fz (.inr ⟨_,ro⟩)) (U ⟨#[]⟩) (j:=6))).to (KS.setCell (X:=XN) _ QG (.inr fun f t fz=>z _ f t fz (.inr ⟨_,n6⟩)) (Z (N (J QP 0 Y)) (d - j) c4) (j:=7))
    refine((k7.trans (KS.setCell (X:=fun i=>i=w.heap.size) _ l (Or.inl rfl) _) ?_).trans (KS.setCell (X:=fun i=>i=w.heap.size) _ l (Or.inl rfl) _) ?_).trans (KS.setCell (X:=fun i=>i=w.heap.size) _ l (Or.inl rfl) _) ?_;all_goals
     intro i hi h;have M:i=w.heap.size:=h;omega
end
def dl (nm:ByteArray):SM:=⟨nm,0,⟨#[]⟩,[],Z Y 0 0,D⟩
theorem lg (w:E)(l i d f k g:QB)(t:QF):∀ j u,[l,i,d,f,k,g][j]?=N u->(w.alloc (T #[l,i,d,f,k,g] t)).cell? (((J w.heap.size 0 Y):Addr).add j)=N u:=by
 intro j u h;rw[addr_add];have hj:j<6:=by
  rcases IX j 6 with b | b
  ·exact b
  ·rw[IQ (by simp;omega)] at h;cases h
 rcases(show j=0∨j=1∨j=2∨j=3∨j=4∨j=5 by omega) with rfl | rfl | rfl | rfl | rfl | rfl;all_goals
  simp at h;subst h;simp
theorem li (w:E)(v:QB)(t:QF):∀ j u,[v][j]?=N u->(w.alloc (T #[v] t)).cell? (((J w.heap.size 0 Y):Addr).add j)=N u:=by
 intro j u h;rw[addr_add];have d:j=0:=by
  rcases IX j 1 with b | b
  ·omega
  ·rw[IQ (by simp;omega)] at h;cases h
 subst d;simp at h;subst h;simp
theorem ej {w:E}{d size n:Nat}{e:QF}{v:QB}{f:List QB}(h:w.ownsRow d e size v n f):∃ a b,v=Z a n b:=by
 obtain⟨_,⟨rfl,rfl⟩ | ⟨g,b,cur,rfl,_⟩⟩:=h
 ·exact⟨Y,0,rfl⟩
 ·exact⟨_,_,rfl⟩
theorem KS.fresh {B:Nat}{W w:E}(h:KS B XN W w){b:Nat}(hb:W.heap.size<=b)(f:B<=W.heap.size)(j:Nat)(u:QB):KS B XN W (w.setCell (J b j Y) u) :=
 h.trans (KS.setCell (X:=fun i=>i=b) w (j5 f hb) (Or.inl rfl) u) fun i hi d=>by have e2:i=b:=d;omega
section
variable {w0 w:E}{hb:Nat}{s0 s1 or st:QB}{making:List ByteArray}{made:List Ent}{L:List SM}
theorem SI.upd' {g b k j QL:Nat}{m m':SM}{u:QB}(i:L.length=QL)(h:SI w0 hb s0 s1 w making made L (Z (N (J g 0 Y)) QL b) or st)(d:L[k]?=N m)(n:j<6)(l:smV m'=(smV m).set j u)(f:m'.done=QC->w.ownsRow w0.heap.size 242 3 m'.sv m'.seen.length (eY m'.seen)):SI w0 hb s0 s1 (w.setCell (J g (k*6+j) Y) u) making made (L.set k m') (Z (N (J g 0 Y)) QL b) or st/\KS w0.heap.size XN w (w.setCell (J g (k*6+j) Y) u)/\(L.set k m')[k]?=N m'/\(L.set k m').length=QL:=by subst i;have:=h.upd d n l f;rw[IT] at this;exact⟨this.1,this.2,MC (o3.1 d).1,IT⟩
theorem SI.told {g f k QL:Nat}{m:SM}(y:L.length=QL)(h:SI w0 hb s0 s1 w making made L (Z (N (J g 0 Y)) QL f) or st)(z:L[k]?=N m)(x:m.done=D)(b:Int)(d:ByteArray):SI w0 hb s0 s1 (((w.setCell (J g (k*6+1) Y) (Q I b)).setCell (J g (k*6+1+1) Y) (U d)).setCell (J g (k*6+1+2) Y) (Z Y 0 0)) making made (L.set k ⟨m.name,b,d,m.seen,m.sv,D⟩) (Z (N (J g 0 Y)) QL f) or st/\KS w0.heap.size XN w (((w.setCell (J g (k*6+1) Y) (Q I b)).setCell (J g (k*6+1+1) Y) (U d)).setCell (J g (k*6+1+2) Y) (Z Y 0 0))/\(L.set k ⟨m.name,b,d,m.seen,m.sv,D⟩)[k]?=N ⟨m.name,b,d,m.seen,m.sv,D⟩/\(L.set k ⟨m.name,b,d,m.seen,m.sv,D⟩).length=QL:=by obtain⟨a1,s,B,o⟩:=h.upd' y z (j:=1) (by omega) (u:=Q I b) (m':=⟨m.name,b,m.text,m.seen,m.sv,D⟩) (by simp[smV,x]) (fun h=>by cases h);obtain⟨r,p,t,A⟩:=a1.upd' o B (j:=2) (by omega) (u:=U d) (m':=⟨m.name,b,d,m.seen,m.sv,D⟩) rfl (fun h=>by cases h);obtain⟨l,q,i,n⟩:=r.upd' A t (j:=3) (by omega) (m':=⟨m.name,b,d,m.seen,m.sv,D⟩) (u:=Z Y 0 0) rfl (fun h=>by cases h);rw[MG,MG] at l i n;exact⟨l,(s.to p).to q,i,n⟩
end
section
variable {w0:E}{S:Spc}{a0 a1:Option Addr}{c0 c1 hb:Nat}{md or st:QB}{making:List ByteArray}{made:List Ent}{L:List SM}
theorem zc (C:kX w0 S a0 a1)(w:E)(nm:ByteArray)(h:SI w0 hb (Z a0 S.n0 c0) (Z a1 S.n1 c1) w making made L md or st)(Fl:L.length<=100000)(Fy:made.length<=100000)(h1:fI L nm=Y)(h2:atI (nm0 S.f0) S.n0 nm=Y)(h3:atI (nm1 S.f1) S.n1 nm=Y):Calls Tryz.prog 167 #[.pointer (N (J hb 0 Y)),U nm] w fun e w'=>∃ Fd FG,e=QD (QE #[Q I 4,U nm,Z Y 0 0])/\SI w0 hb (Z a0 S.n0 c0) (Z a1 S.n1 c1) w' making (made++[⟨nm,2,0,⟨#[]⟩,0,[]⟩]) ((L++[dl nm]).set L.length ⟨nm,4,nm,[],Z Y 0 0,QC⟩) Fd FG st/\KS w0.heap.size XN w w':=by
 obtain⟨im,Fo,Fj,Fk,FA⟩:=eZ kY;obtain⟨i1,Fp,Fw,Ft,FE⟩:=eZ gL;have A0:=ae ((Qs w).alloc lr (T #[Q I 0,U ⟨#[]⟩,Z Y 0 0] 41));have kr:Hid ((w.alloc (T #[Q I 0,U ⟨#[]⟩,Z Y 0 0] 41)).heap[w.heap.size]?=N (T #[Q I 0,U ⟨#[]⟩,Z Y 0 0] 41 (0,0))):=eL _ _;have S0:=ae (h.below A0 lr);have s:w0.heap.size<=w.heap.size:=h.lt;have e1:dk (fI L nm)=-1:=by rw[h1];rfl
 obtain⟨am,cm,rfl⟩:=ej h.rmd;obtain⟨n,hn⟩:∃ n,n=L.length:=⟨_,rfl⟩
 have M:=ae hn;have CC:=ae C;have hsm:=C.ok.small;have hn1:n<=100000:=by omega
 clear h h1 hn C;have es:dk (atI (nm0 S.f0) S.n0 nm)=-1:=by rw[h2];rfl
 have et:dk (atI (nm1 S.f1) S.n1 nm)=-1:=by rw[h3];rfl
 clear h2 h3;go_enter Tryz.func167,Tryz.ntmps167;go_wp2_with fail;generalize w.alloc (T #[Q I 0,U ⟨#[]⟩,Z Y 0 0] 41)=r at A0 kr S0 ⊢;refine(gJ r nm S0 Fl).mono ?_;rintro e w1 ⟨rfl,ur⟩;rw[ur,e1];clear ur e1;obtain⟨p,-,-,QQ,-⟩:=S0.box.facts;rw[<-M.out] at QQ;have A1:=ae ((Qs r).alloc lr (T #[U nm,Q I 0,U ⟨#[]⟩,Z Y 0 0,Z Y 0 0,QA D] 239));have W:=ae (S0.below A1 lr);have RM:=ae (by have h:=W.rmd;rw[<-M.out] at h;exact h);have Fz:(r.alloc (T #[U nm,Q I 0,U ⟨#[]⟩,Z Y 0 0,Z Y 0 0,QA D] 239)).heap.size=r.heap.size+1:=by simp
 have HG:Hid (∀ g:E,(r.alloc (T #[U nm,Q I 0,U ⟨#[]⟩,Z Y 0 0,Z Y 0 0,QA D] 239)).grownBy g (Value.slice am n cm).ownBlock->g.heap[hb]?=(r.alloc (T #[U nm,Q I 0,U ⟨#[]⟩,Z Y 0 0,Z Y 0 0,QA D] 239)).heap[hb]?):=fun g hg=>hg.block hb (by omega) fun e=>by obtain⟨_,_,cs,hc⟩:=af RM hb e.symm;exact absurd (ah W.box hc) (by decide)
 have Bk:w0.heap.size<=(r.alloc (T #[U nm,Q I 0,U ⟨#[]⟩,Z Y 0 0,Z Y 0 0,QA D] 239)).heap.size:=W.lt;have hz1':r.heap.size<(r.alloc (T #[U nm,Q I 0,U ⟨#[]⟩,Z Y 0 0,Z Y 0 0,QA D] 239)).heap.size:=by omega
 clear Fz
 go_upto_region 7 with (first
  | (at_builtin;refine bu _ rfl (.tmp 46) (.tmp 49) 130 rfl w0.heap.size 239 im (QE #[U ⟨#[]⟩,Q I 0,U ⟨#[]⟩,Z Y 0 0,Z Y 0 0,QA D]) 6 96 Tryz.underlying130 Fo Fj Fk FA rfl (by decide) (Z am n cm) n (L.flatMap smV) (by simp[Act.eval]) RM.out (J r.heap.size 0 Y) 1 1 [U nm,Q I 0,U ⟨#[]⟩,Z Y 0 0,Z Y 0 0,QA D] (by simp[Act.eval]) rfl (lg r _ _ _ _ _ _ _) (by simp[Value.oneCell']) (by unfold maxLen;omega) (by omega) Bk ?_;intro v2 g l f P;have O2:=ae l;have G2:=ae f;have At:=ae (HG g f);obtain⟨b,y,cu2,rfl,FH⟩:=l.2.resolve_left (fun h=>by omega);clear FH l f P;obtain⟨DQ,-,-,f2,-,-,-,-,-,-,ff⟩:=(ShBox.blk W.box At).facts;have Fr:=ff 2;clear ff)
  | fail)
 have SX:=ae (W.addL (m:=dl nm) (w':=g) (v:=Z (N (J b 0 Y)) (n+1) y) (by rw[<-M.out];exact G2) (by rw[<-M.out];exact O2) rfl);have S3:=ae SX.1;have K3:Hid (KS w0.heap.size XN w (g.setCell (J hb 2 Y) (Z (N (J b 0 Y)) (n+1) y))):=((KS.of_below (X:=XN) A0 lr s).to (KS.of_below A1 lr S0.lt)).to SX.2;have O:Hid ((g.setCell (J hb 2 Y) (Z (N (J b 0 Y)) (n+1) y)).heap[w.heap.size]?=N (T #[Q I 0,U ⟨#[]⟩,Z Y 0 0] 41 (0,0))):=by have h0:=(A1.block _ (ai kr)).trans kr;exact(SX.2.blk _ _ _ _ h0 (by decide) (by decide) (by decide) fun h=>h).trans h0
 have QP:(L++[dl nm]).length=n+1:=by rw[cM,p8,<-M.out]
 have QK:Hid ((L++[dl nm])[n]?=N (dl nm)):=by rw[M.out];show _=_;rw[AT lr,JX];rfl
 clear SX f2 Fr DQ QQ p RM W A1 HG O2 G2 At;generalize g.setCell (J hb 2 Y) (Z (N (J b 0 Y)) (n+1) y)=W3 at S3 K3 O ⊢;obtain⟨p,b0,b1,-⟩:=S3.box.facts;go_wp2_with fail;refine(fa a0 S.n0 c0 a1 S.n1 c1 S.f0 nm W3 (by omega) (CC.src.below S3.bel lr)).mono ?_;rintro e w4 ⟨he,B⟩;rw[es] at he;subst he;have S4:=ae (S3.below B lr);have bt:Hid (w4.heap[w.heap.size]?=_):=(B.block _ (ai O)).trans O;have K4:=ae (K3.to (KS.of_below (X:=XN) B lr S3.lt));clear B b0 b1 p S3 K3 O;obtain⟨p,b0,b1,-⟩:=S4.box.facts;go_wp2_with fail;refine(fb a0 S.n0 c0 a1 S.n1 c1 S.f1 nm w4 (by omega) (CC.tgt.below S4.bel lr)).mono ?_;rintro e QL ⟨he,B⟩;rw[et] at he;subst he;have S5:=ae (S4.below B lr);have ld:Hid (QL.heap[w.heap.size]?=N (T #[Q I 0,U ⟨#[]⟩,Z Y 0 0] 41 (0,0))):=(B.block _ (ai bt)).trans bt;have K5:=ae (K4.to (KS.of_below (X:=XN) B lr S4.lt));clear B b0 b1 p S4 K4 bt A0 S0 kr;have A6:=ae ((Qs QL).alloc lr (T #[Q I 4,U nm,Z Y 0 0] 41));have QO:Hid ((QL.alloc (T #[Q I 4,U nm,Z Y 0 0] 41)).heap[QL.heap.size]?=N (T #[Q I 4,U nm,Z Y 0 0] 41 (0,0))):=eL _ _;go_upto_region 13 with fail;generalize QL.alloc (T #[Q I 4,U nm,Z Y 0 0] 41)=k at A6 QO ⊢;have QH:=ae (S5.below A6 lr);have fd:Hid (k.heap[w.heap.size]?=N (T #[Q I 0,U ⟨#[]⟩,Z Y 0 0] 41 (0,0))):=(A6.block _ (ai ld)).trans ld;have K6:=ae (K5.to (KS.of_below (X:=XN) A6 lr S5.lt));obtain⟨rb,ro⟩:∃ rb,rb=QL.heap.size:=⟨_,rfl⟩
 rw[<-ro] at QO ⊢;have hrbw:w.heap.size<=rb:=by have:=K5.below.size;omega
 clear ro A6 S5 ld K5;obtain⟨p,-,-,QQ,-⟩:=QH.box.facts;obtain⟨rl,r0,r1,r2,-⟩:=aZ QO;obtain⟨hg2B,hg2l,Fs,aq⟩:=af QH.rmd b rfl;have la:=ae aq;have R6:=ae (by have h:=QH.rmd;rw[QP] at h;exact h);have q1:k.cell? (J b (n*6+1) Y)=N (Q I 0):=cG (by rw[QP];exact R6) QK 1 (by omega) rfl;have q2:k.cell? (J b (n*6+1+1) Y)=N (U ⟨#[]⟩):=cG (by rw[QP];exact R6) QK 2 (by omega) rfl;have q3:k.cell? (J b (n*6+1+2) Y)=N (Z Y 0 0):=cG (by rw[QP];exact R6) QK 3 (by omega) rfl;have qf:∀ j,k.frozen? (J b j Y)=D:=fun j=>by simp[World.frozen?,aq]
 have Fi:=qf (n*6+1);have FD:=qf (n*6+1+1);have Fu:=qf (n*6+1+2);clear qf aq;have hIn:(n:Int)<(n:Int)+1:=by omega
 have QN:b≠hb:=by intro e;have h:=la.out;rw[e] at h;exact absurd (ah h QH.box) (by decide)
 have d:b≠rb:=by intro e;have h:=la.out;rw[e] at h;exact absurd (ah h QO) (by decide)
 refine wp_region_held_drew (S:=fun V=>V.cell? (J hb 2 Y)=N (Z (N (J b 0 Y)) (n+1) y)/\V.cell? (J rb 0 Y)=N (Q I 4)/\V.cell? (J rb 1 Y)=N (U nm)/\V.cell? (J rb 2 Y)=N (Z Y 0 0)) (by as_aux_lemma=>kernel_rfl) ⟨QQ,r0,r1,r2⟩ (fun hS=>?_);have HS:=ae hS;clear hS
 iterate 8
  first | refine bS 0 (v:=?_) rfl rfl (by as_aux_lemma=>kernel_rfl) (fun _ _ _ h=>h) rfl ?_ HS ?_ | refine bS 4 (v:=?_) rfl rfl (by as_aux_lemma=>kernel_rfl) (fun _ _ _ h=>h) rfl ?_ HS ?_
  rotate_left
  ·(intro wz Fh;obtain⟨s0,s1,s2,s3⟩:=Fh;go_simp)
   (try with_reducible rfl)
  (try simp only[Act.put,nzL])
 have G:=ae (QH.told QP QK rfl 4 nm)
 have n8:Hid ((((k.setCell (J b (n*6+1) Y) (Q I 4)).setCell (J b (n*6+1+1) Y) (U nm)).setCell (J b (n*6+1+2) Y) (Z Y 0 0)).drew.cell? (J hb 2 Y)=N (Z (N (J b 0 Y)) (n+1) y)/\(((k.setCell (J b (n*6+1) Y) (Q I 4)).setCell (J b (n*6+1+1) Y) (U nm)).setCell (J b (n*6+1+2) Y) (Z Y 0 0)).drew.cell? (J rb 0 Y)=N (Q I 4)/\(((k.setCell (J b (n*6+1) Y) (Q I 4)).setCell (J b (n*6+1+1) Y) (U nm)).setCell (J b (n*6+1+2) Y) (Z Y 0 0)).drew.cell? (J rb 1 Y)=N (U nm)/\(((k.setCell (J b (n*6+1) Y) (Q I 4)).setCell (J b (n*6+1+1) Y) (U nm)).setCell (J b (n*6+1+2) Y) (Z Y 0 0)).drew.cell? (J rb 2 Y)=N (Z Y 0 0)) :=
  ⟨(cell_far _ _ _ _ QN).trans ((cell_far _ _ _ _ QN).trans ((cell_far _ _ _ _ QN).trans QQ)),(cell_far _ _ _ _ d).trans ((cell_far _ _ _ _ d).trans ((cell_far _ _ _ _ d).trans r0)),(cell_far _ _ _ _ d).trans ((cell_far _ _ _ _ d).trans ((cell_far _ _ _ _ d).trans r1)),(cell_far _ _ _ _ d).trans ((cell_far _ _ _ _ d).trans ((cell_far _ _ _ _ d).trans r2))⟩
 refine bN (i:=8) rfl (by as_aux_lemma=>kernel_rfl) (fun K hK=>?_);go_simp;refine hK _ _ n8 ?_;clear hK K HS q1 q2 q3 Fi FD Fu QQ r0 r1 r2 rl
 (try simp only[Act.put])
 refine wpAnyH_done (by as_aux_lemma=>kernel_rfl) ?_ _;have D7:Hid (Below (((k.setCell (J b (n*6+1) Y) (Q I 4)).setCell (J b (n*6+1+1) Y) (U nm)).setCell (J b (n*6+1+2) Y) (Z Y 0 0)).heap.size (((k.setCell (J b (n*6+1) Y) (Q I 4)).setCell (J b (n*6+1+1) Y) (U nm)).setCell (J b (n*6+1+2) Y) (Z Y 0 0)) (((k.setCell (J b (n*6+1) Y) (Q I 4)).setCell (J b (n*6+1+1) Y) (U nm)).setCell (J b (n*6+1+2) Y) (Z Y 0 0)).drew):=br.drew;have QG:=ae (G.1.below D7 lr);have K7:=ae (K6.to (G.2.1.to (KS.of_below (X:=XN) D7 lr G.1.lt)));have n6:=G.2.2.1;have qr:=G.2.2.2;have R:Hid ((((k.setCell (J b (n*6+1) Y) (Q I 4)).setCell (J b (n*6+1+1) Y) (U nm)).setCell (J b (n*6+1+2) Y) (Z Y 0 0)).drew.heap[w.heap.size]?=N (T #[Q I 0,U ⟨#[]⟩,Z Y 0 0] 41 (0,0))):=by have h0:=(G.2.1.blk _ _ _ _ fd (by decide) (by decide) (by decide) fun h=>h).trans fd;exact h0
 have QJ:Hid ((((k.setCell (J b (n*6+1) Y) (Q I 4)).setCell (J b (n*6+1+1) Y) (U nm)).setCell (J b (n*6+1+2) Y) (Z Y 0 0)).drew.heap[rb]?=N (T #[Q I 4,U nm,Z Y 0 0] 41 (0,0))):=by have h0:=(G.2.1.blk _ _ _ _ QO (by decide) (by decide) (by decide) fun h=>h).trans QO;exact h0
 have ph:=ae n6;have n7:=ae qr;clear G n8 n6 qr fd QO K6 QH R6 la D7;generalize (((k.setCell (J b (n*6+1) Y) (Q I 4)).setCell (J b (n*6+1+1) Y) (U nm)).setCell (J b (n*6+1+2) Y) (Z Y 0 0)).drew=W7 at QG K7 R QJ ⊢;obtain⟨p,-,-,QQ,-⟩:=QG.box.facts;obtain⟨hg2B',hg2l',cs7,n9⟩:=af QG.rmd b rfl;have q5:W7.cell? (J b (n*6+5) Y)=N (QA D):=cG (by have h:=QG.rmd;rw[n7.out] at h ⊢;exact h) ph 5 (by omega) rfl;have FC:W7.frozen? (J b (n*6+5) Y)=D:=by simp[World.frozen?,n9]
 have TD:=ae (QG.upd' n7 ph (j:=5) (by omega) (u:=QA QC) (m':=⟨nm,4,nm,[],Z Y 0 0,QC⟩) rfl (fun _=>⟨rfl,.inl ⟨rfl,rfl⟩⟩));have A:Hid ((W7.setCell (J b (n*6+5) Y) (QA QC)).heap[w.heap.size]?=N (T #[Q I 0,U ⟨#[]⟩,Z Y 0 0] 41 (0,0))):=(TD.2.1.blk _ _ _ _ R (by decide) (by decide) (by decide) fun h=>h).trans R;have z:Hid ((W7.setCell (J b (n*6+5) Y) (QA QC)).heap[rb]?=N (T #[Q I 4,U nm,Z Y 0 0] 41 (0,0))):=(TD.2.1.blk _ _ _ _ QJ (by decide) (by decide) (by decide) fun h=>h).trans QJ;have H:=ae TD.1;have K8:=ae (K7.to TD.2.1);clear n9;go_upto_region 15 with fail;clear QQ q5 FC TD QG K7 R QJ;generalize W7.setCell (J b (n*6+5) Y) (QA QC)=o at H K8 A z ⊢;obtain⟨ao,co,rfl⟩:=ej H.ror;obtain⟨q,hq⟩:∃ q,q=made.length:=⟨_,rfl⟩
 have HQ:=ae hq;rw[<-hq] at Fy;clear hq;obtain⟨p,-,-,-,b3,-⟩:=H.box.facts;rw[<-HQ.out] at b3;have A9:=ae ((Qs o).alloc lr (T #[U nm] 9));have S9:=ae (H.below A9 lr);have RO:=ae (by have h:=S9.ror;rw[<-HQ.out] at h;exact h);have DA:w0.heap.size<=(o.alloc (T #[U nm] 9)).heap.size:=S9.lt;have HG:Hid (∀ g:E,(o.alloc (T #[U nm] 9)).grownBy g (Value.slice ao q co).ownBlock->g.heap[hb]?=(o.alloc (T #[U nm] 9)).heap[hb]?/\g.heap[w.heap.size]?=(o.alloc (T #[U nm] 9)).heap[w.heap.size]?/\g.heap[rb]?=(o.alloc (T #[U nm] 9)).heap[rb]?):=fun g hg=>by
  have ex:∀ (i:Nat) (cs:Array QB) (t:QF) (fz:Nat × Nat),(o.alloc (T #[U nm] 9)).heap[i]?=N (Obj.cells cs t fz)->t≠9->g.heap[i]?=(o.alloc (T #[U nm] 9)).heap[i]?:=fun i cs t fz hi ht=>hg.block i (ai hi) fun e=>by obtain⟨_,_,Fs,hc⟩:=af RO i e.symm;exact ht (ah hi hc)
  exact⟨ex _ _ _ _ S9.box (by decide),ex _ _ _ _ ((A9.block _ (ai A)).trans A) (by decide),ex _ _ _ _ ((A9.block _ (ai z)).trans z) (by decide)⟩
 have sm:Hid ((o.alloc (T #[U nm] 9)).heap[w.heap.size]?=N (T #[Q I 0,U ⟨#[]⟩,Z Y 0 0] 41 (0,0))):=(A9.block _ (ai A)).trans A;have Fx:Hid ((o.alloc (T #[U nm] 9)).heap[rb]?=N (T #[Q I 4,U nm,Z Y 0 0] 41 (0,0))):=(A9.block _ (ai z)).trans z;have FF:¬ hb=w.heap.size:=fun e=>by have h:=H.box;unfold ShBox at h;rw[e] at h;exact absurd (ah h A) (by decide)
 have DE:¬ w.heap.size=hb:=fun e=>FF e.symm;have Fm:¬ hb=rb:=fun e=>by have h:=H.box;unfold ShBox at h;rw[e] at h;exact absurd (ah h z) (by decide)
 have hbr':¬ rb=hb:=fun e=>Fm e.symm
 go_wp2_with (first
  | (at_builtin;refine bu _ rfl (.tmp 100) (.tmp 102) 39 rfl w0.heap.size 9 i1 (U ⟨#[]⟩) 1 16 Tryz.underlying39 Fp Fw Ft FE rfl (by decide) (Z ao q co) q (bq (made.map (·.name))) (by simp[Act.eval]) RO.out (J o.heap.size 0 Y) 1 1 [U nm] (by simp[Act.eval]) rfl (li o _ _) (by simp[Value.oneCell']) (by unfold maxLen;omega) (by omega) DA ?_;intro v9 w9 l f P;have O9:=ae l;have G9:=ae f;have Fq:=ae P;have QM:=ae (HG w9 f);obtain⟨g9,c9,cu9,rfl,Fv⟩:=l.2.resolve_left (fun h=>by omega);clear Fv l f P;obtain⟨hbl9,-,-,-,f3,-,-,-,-,-,ff⟩:=(ShBox.blk S9.box QM.1).facts;have ff3:=ff 3;obtain⟨rl,r0,r1,r2,rf⟩:=aZ (QM.2.1.trans sm);have rf0:=rf 0;have rf1:=rf 1;have rf2:=rf 2;obtain⟨pl,p0,p1,p2,pf⟩:=aZ (QM.2.2.trans Fx);clear ff rf pf)
  | fail)
 have th:=ae (S9.ord (x:=⟨nm,2,0,⟨#[]⟩,0,[]⟩) (w':=w9) (v:=Z (N (J g9 0 Y)) (q+1) c9) (by rw[<-HQ.out];exact G9) (by rw[<-HQ.out];exact O9) (by rw[<-HQ.out];exact Fq));refine bp (v:=QE #[Q I 4,U nm,Z Y 0 0]) (by simp[results,Tryz.results167,go_sem,r0,r1,r2]) rfl ?_;have mv:=(qh w9 (J hb 3 Y) (Z (N (J g9 0 Y)) (q+1) c9) w.heap.size DE).trans (QM.2.1.trans sm);refine⟨Z (N (J b 0 Y)) (n+1) y,Z (N (J g9 0 Y)) (q+1) c9,rfl,?_,?_⟩
 ·rw[<-M.out]
  have x0:=th.1;rw[MG] at x0;replace x0:=x0.setOff mv ⟨by decide,by decide,by decide,by decide⟩ s 0 (Q I 4);have y0:=aw mv (j:=0) (Q I 4);have x1:=x0.setOff y0 ⟨by decide,by decide,by decide,by decide⟩ s 1 (U nm);exact x1.setOff (aw y0 (j:=1) (U nm)) ⟨by decide,by decide,by decide,by decide⟩ s 2 (Z Y 0 0)
 ·have k0:=(K8.to (KS.of_below (X:=XN) A9 lr H.lt)).to th.2
  exact((k0.fresh lr s 0 _).fresh lr s 1 _).fresh lr s 2 _
end
section
variable {w0:E}{S:Spc}{a0 a1:Option Addr}{c0 c1 hb:Nat}{md or st:QB}{making:List ByteArray}{made:List Ent}{L:List SM}
theorem Bs (C:kX w0 S a0 a1)(w:E)(nm:ByteArray)(h:SI w0 hb (Z a0 S.n0 c0) (Z a1 S.n1 c1) w making made L md or st)(Fr:L.length<=100000)(FG:made.length<=100000)(h1:fI L nm=Y)(si:Nat)(h2:atI (nm0 S.f0) S.n0 nm=N si)(h3:atI (nm1 S.f1) S.n1 nm=Y):Calls Tryz.prog 167 #[.pointer (N (J hb 0 Y)),U nm] w fun e w'=>∃ Fl FO,e=QD (QE #[Q I 0,U (S.f0 si).text,Z Y 0 0])/\SI w0 hb (Z a0 S.n0 c0) (Z a1 S.n1 c1) w' making (made++[⟨nm,1,0,(S.f0 si).text,0,[]⟩]) ((L++[dl nm]).set L.length ⟨nm,0,(S.f0 si).text,[],Z Y 0 0,QC⟩) Fl FO st/\KS w0.heap.size XN w w':=by
 obtain⟨im,Ft,Fp,Fq,FI⟩:=eZ kY;obtain⟨i1,Fu,FE,Fy,FL⟩:=eZ gL;have A0:=ae ((Qs w).alloc lr (T #[Q I 0,U ⟨#[]⟩,Z Y 0 0] 41));have kr:Hid ((w.alloc (T #[Q I 0,U ⟨#[]⟩,Z Y 0 0] 41)).heap[w.heap.size]?=N (T #[Q I 0,U ⟨#[]⟩,Z Y 0 0] 41 (0,0))):=eL _ _;have S0:=ae (h.below A0 lr);have z:w0.heap.size<=w.heap.size:=h.lt;have e1:dk (fI L nm)=-1:=by rw[h1];rfl
 obtain⟨am,cm,rfl⟩:=ej h.rmd;obtain⟨n,hn⟩:∃ n,n=L.length:=⟨_,rfl⟩
 have O:=ae hn;have CC:=ae C;have hsm:=C.ok.small;have hn1:n<=100000:=by omega
 clear h h1 hn C;have es:dk (atI (nm0 S.f0) S.n0 nm)=(si:Int):=by rw[h2];rfl
 have et:dk (atI (nm1 S.f1) S.n1 nm)=-1:=by rw[h3];rfl
 have FN:=(aT h2).1;obtain⟨sb,so,Bk,At⟩:∃ sb so,a0=N (J sb so Y)/\RowSource w0 sb so S.n0 S.f0:=by
  rcases CC.src with h | ⟨b,off,e,hr⟩
  ·omega
  ·exact⟨b,off,e,hr⟩
 have Fd:=ae At;have Fz:=ae Bk;obtain⟨tx,aq⟩:∃ tx,tx=(S.f0 si).text:=⟨_,rfl⟩
 have FD:=ae aq;rw[<-aq];clear h2 h3 At aq Bk;go_enter Tryz.func167,Tryz.ntmps167;go_wp2_with fail;generalize w.alloc (T #[Q I 0,U ⟨#[]⟩,Z Y 0 0] 41)=s at A0 kr S0 ⊢;refine(gJ s nm S0 Fr).mono ?_;rintro e w1 ⟨rfl,DE⟩;rw[DE,e1];clear DE e1;obtain⟨l,-,-,G,-⟩:=S0.box.facts;rw[<-O.out] at G;have A1:=ae ((Qs s).alloc lr (T #[U nm,Q I 0,U ⟨#[]⟩,Z Y 0 0,Z Y 0 0,QA D] 239));have QG:=ae (S0.below A1 lr);have RM:=ae (by have h:=QG.rmd;rw[<-O.out] at h;exact h);have FH:(s.alloc (T #[U nm,Q I 0,U ⟨#[]⟩,Z Y 0 0,Z Y 0 0,QA D] 239)).heap.size=s.heap.size+1:=by simp
 have HG:Hid (∀ k:E,(s.alloc (T #[U nm,Q I 0,U ⟨#[]⟩,Z Y 0 0,Z Y 0 0,QA D] 239)).grownBy k (Value.slice am n cm).ownBlock->k.heap[hb]?=(s.alloc (T #[U nm,Q I 0,U ⟨#[]⟩,Z Y 0 0,Z Y 0 0,QA D] 239)).heap[hb]?):=fun k hg=>hg.block hb (by omega) fun e=>by obtain⟨_,_,cs,hc⟩:=af RM hb e.symm;exact absurd (ah QG.box hc) (by decide)
 have Fh:w0.heap.size<=(s.alloc (T #[U nm,Q I 0,U ⟨#[]⟩,Z Y 0 0,Z Y 0 0,QA D] 239)).heap.size:=QG.lt;have hz1':s.heap.size<(s.alloc (T #[U nm,Q I 0,U ⟨#[]⟩,Z Y 0 0,Z Y 0 0,QA D] 239)).heap.size:=by omega
 clear FH
 go_upto_region 7 with (first
  | (at_builtin;refine bu _ rfl (.tmp 46) (.tmp 49) 130 rfl w0.heap.size 239 im (QE #[U ⟨#[]⟩,Q I 0,U ⟨#[]⟩,Z Y 0 0,Z Y 0 0,QA D]) 6 96 Tryz.underlying130 Ft Fp Fq FI rfl (by decide) (Z am n cm) n (L.flatMap smV) (by simp[Act.eval]) RM.out (J s.heap.size 0 Y) 1 1 [U nm,Q I 0,U ⟨#[]⟩,Z Y 0 0,Z Y 0 0,QA D] (by simp[Act.eval]) rfl (lg s _ _ _ _ _ _ _) (by simp[Value.oneCell']) (by unfold maxLen;omega) (by omega) Fh ?_;intro v2 k p g QM;have O2:=ae p;have G2:=ae g;have DQ:=ae (HG k g);obtain⟨d,A,cu2,rfl,FP⟩:=p.2.resolve_left (fun h=>by omega);clear FP p g QM;obtain⟨Fk,-,-,f2,-,-,-,-,-,-,ff⟩:=(ShBox.blk QG.box DQ).facts;have Fw:=ff 2;clear ff)
  | fail)
 have SX:=ae (QG.addL (m:=dl nm) (w':=k) (v:=Z (N (J d 0 Y)) (n+1) A) (by rw[<-O.out];exact G2) (by rw[<-O.out];exact O2) rfl);have S3:=ae SX.1;have K3:Hid (KS w0.heap.size XN w (k.setCell (J hb 2 Y) (Z (N (J d 0 Y)) (n+1) A))):=((KS.of_below (X:=XN) A0 lr z).to (KS.of_below A1 lr S0.lt)).to SX.2;have P:Hid ((k.setCell (J hb 2 Y) (Z (N (J d 0 Y)) (n+1) A)).heap[w.heap.size]?=N (T #[Q I 0,U ⟨#[]⟩,Z Y 0 0] 41 (0,0))):=by have h0:=(A1.block _ (ai kr)).trans kr;exact(SX.2.blk _ _ _ _ h0 (by decide) (by decide) (by decide) fun h=>h).trans h0
 have H:(L++[dl nm]).length=n+1:=by rw[cM,p8,<-O.out]
 have QJ:Hid ((L++[dl nm])[n]?=N (dl nm)):=by rw[O.out];show _=_;rw[AT lr,JX];rfl
 clear SX f2 Fw Fk G l RM QG A1 HG O2 G2 DQ;generalize k.setCell (J hb 2 Y) (Z (N (J d 0 Y)) (n+1) A)=W3 at S3 K3 P ⊢;obtain⟨l,b0,b1,-⟩:=S3.box.facts;go_wp2_with fail;refine(fa a0 S.n0 c0 a1 S.n1 c1 S.f0 nm W3 (by omega) (CC.src.below S3.bel lr)).mono ?_;rintro e w4 ⟨he,QP⟩;rw[es] at he;subst he;have S4:=ae (S3.below QP lr);have ex:Hid (w4.heap[w.heap.size]?=_):=(QP.block _ (ai P)).trans P;have K4:=ae (K3.to (KS.of_below (X:=XN) QP lr S3.lt));clear QP b0 b1 l S3 K3 P;obtain⟨l,b0,b1,-⟩:=S4.box.facts;go_wp2_with fail;refine(fb a0 S.n0 c0 a1 S.n1 c1 S.f1 nm w4 (by omega) (CC.tgt.below S4.bel lr)).mono ?_;rintro e y ⟨he,QP⟩;rw[et] at he;subst he;have QH:=ae (S4.below QP lr);have n6:Hid (y.heap[w.heap.size]?=N (T #[Q I 0,U ⟨#[]⟩,Z Y 0 0] 41 (0,0))):=(QP.block _ (ai ex)).trans ex;have K5:=ae (K4.to (KS.of_below (X:=XN) QP lr S4.lt));clear QP b0 b1 l S4 K4 ex A0 S0 kr;have A5:=ae ((Qs y).alloc lr (T #[Q I 4,U nm,Z Y 0 0] 41));have ld:=ae (QH.below A5 lr);have hI0:(0:Int)<=(si:Int):=by omega
 have hI1:(si:Int)<(S.n0:Int):=by omega
 have q0:(y.alloc (T #[Q I 4,U nm,Z Y 0 0] 41)).cell? (J hb 0 Y)=N (Z (N (J sb so Y)) S.n0 c0):=by have h:=ld.box.facts.2.1;rw[Fz.out] at h;exact h
 have q1:(y.alloc (T #[Q I 4,U nm,Z Y 0 0] 41)).cell? (J sb (so+si*2+1) Y)=N (U tx):=by rw[FD.out];exact((Fd.below ld.bel lr).2 si FN).2
 have l:=QH.box.facts.1;have ql:sb<y.heap.size:=ll Fd.1 QH.lt;go_upto_region 13 with fail;clear q0 q1 ql l A5 ld;have A6:=ae ((Qs y).alloc lr (T #[Q I 0,U tx,Z Y 0 0] 41));have M:Hid ((y.alloc (T #[Q I 0,U tx,Z Y 0 0] 41)).heap[y.heap.size]?=N (T #[Q I 0,U tx,Z Y 0 0] 41 (0,0))):=eL _ _;generalize y.alloc (T #[Q I 0,U tx,Z Y 0 0] 41)=o at A6 M ⊢;have S6:=ae (QH.below A6 lr);have la:Hid (o.heap[w.heap.size]?=N (T #[Q I 0,U ⟨#[]⟩,Z Y 0 0] 41 (0,0))):=(A6.block _ (ai n6)).trans n6;have K6:=ae (K5.to (KS.of_below (X:=XN) A6 lr QH.lt));obtain⟨rb,th⟩:∃ rb,rb=y.heap.size:=⟨_,rfl⟩
 rw[<-th] at M ⊢;have hrbw:w.heap.size<=rb:=by have:=K5.below.size;omega
 clear th A6 QH n6 K5;obtain⟨l,-,-,G,-⟩:=S6.box.facts;obtain⟨rl,r0,r1,r2,-⟩:=aZ M;obtain⟨hg2B,hg2l,Fx,bt⟩:=af S6.rmd d rfl;have mv:=ae bt;have R6:=ae (by have h:=S6.rmd;rw[H] at h;exact h);have q1:o.cell? (J d (n*6+1) Y)=N (Q I 0):=cG (by rw[H];exact R6) QJ 1 (by omega) rfl;have q2:o.cell? (J d (n*6+1+1) Y)=N (U ⟨#[]⟩):=cG (by rw[H];exact R6) QJ 2 (by omega) rfl;have q3:o.cell? (J d (n*6+1+2) Y)=N (Z Y 0 0):=cG (by rw[H];exact R6) QJ 3 (by omega) rfl;have qf:∀ j,o.frozen? (J d j Y)=D:=fun j=>by simp[World.frozen?,bt]
 have Fo:=qf (n*6+1);have FK:=qf (n*6+1+1);have FA:=qf (n*6+1+2);clear qf bt;have hIn:(n:Int)<(n:Int)+1:=by omega
 have QL:d≠hb:=by intro e;have h:=mv.out;rw[e] at h;exact absurd (ah h S6.box) (by decide)
 have f:d≠rb:=by intro e;have h:=mv.out;rw[e] at h;exact absurd (ah h M) (by decide)
 refine wp_region_held_drew (S:=fun V=>V.cell? (J hb 2 Y)=N (Z (N (J d 0 Y)) (n+1) A)/\V.cell? (J rb 0 Y)=N (Q I 0)/\V.cell? (J rb 1 Y)=N (U tx)/\V.cell? (J rb 2 Y)=N (Z Y 0 0)) (by as_aux_lemma=>kernel_rfl) ⟨G,r0,r1,r2⟩ (fun hS=>?_);have HS:=ae hS;clear hS
 iterate 8
  first | refine bS 0 (v:=?_) rfl rfl (by as_aux_lemma=>kernel_rfl) (fun _ _ _ h=>h) rfl ?_ HS ?_ | refine bS 4 (v:=?_) rfl rfl (by as_aux_lemma=>kernel_rfl) (fun _ _ _ h=>h) rfl ?_ HS ?_
  rotate_left
  ·(intro wz Fm;obtain⟨s0,s1,s2,s3⟩:=Fm;go_simp)
   (try with_reducible rfl)
  (try simp only[Act.put,nzL])
 have QO:=ae (S6.told H QJ rfl 0 tx)
 have ph:Hid ((((o.setCell (J d (n*6+1) Y) (Q I 0)).setCell (J d (n*6+1+1) Y) (U tx)).setCell (J d (n*6+1+2) Y) (Z Y 0 0)).drew.cell? (J hb 2 Y)=N (Z (N (J d 0 Y)) (n+1) A)/\(((o.setCell (J d (n*6+1) Y) (Q I 0)).setCell (J d (n*6+1+1) Y) (U tx)).setCell (J d (n*6+1+2) Y) (Z Y 0 0)).drew.cell? (J rb 0 Y)=N (Q I 0)/\(((o.setCell (J d (n*6+1) Y) (Q I 0)).setCell (J d (n*6+1+1) Y) (U tx)).setCell (J d (n*6+1+2) Y) (Z Y 0 0)).drew.cell? (J rb 1 Y)=N (U tx)/\(((o.setCell (J d (n*6+1) Y) (Q I 0)).setCell (J d (n*6+1+1) Y) (U tx)).setCell (J d (n*6+1+2) Y) (Z Y 0 0)).drew.cell? (J rb 2 Y)=N (Z Y 0 0)) :=
  ⟨(cell_far _ _ _ _ QL).trans ((cell_far _ _ _ _ QL).trans ((cell_far _ _ _ _ QL).trans G)),(cell_far _ _ _ _ f).trans ((cell_far _ _ _ _ f).trans ((cell_far _ _ _ _ f).trans r0)),(cell_far _ _ _ _ f).trans ((cell_far _ _ _ _ f).trans ((cell_far _ _ _ _ f).trans r1)),(cell_far _ _ _ _ f).trans ((cell_far _ _ _ _ f).trans ((cell_far _ _ _ _ f).trans r2))⟩
 refine bN (i:=8) rfl (by as_aux_lemma=>kernel_rfl) (fun K hK=>?_);go_simp;refine hK _ _ ph ?_;clear hK K HS q1 q2 q3 Fo FK FA G r0 r1 r2 rl
 (try simp only[Act.put])
 refine wpAnyH_done (by as_aux_lemma=>kernel_rfl) ?_ _;have D7:Hid (Below (((o.setCell (J d (n*6+1) Y) (Q I 0)).setCell (J d (n*6+1+1) Y) (U tx)).setCell (J d (n*6+1+2) Y) (Z Y 0 0)).heap.size (((o.setCell (J d (n*6+1) Y) (Q I 0)).setCell (J d (n*6+1+1) Y) (U tx)).setCell (J d (n*6+1+2) Y) (Z Y 0 0)) (((o.setCell (J d (n*6+1) Y) (Q I 0)).setCell (J d (n*6+1+1) Y) (U tx)).setCell (J d (n*6+1+2) Y) (Z Y 0 0)).drew):=br.drew;have S7:=ae (QO.1.below D7 lr);have K7:=ae (K6.to (QO.2.1.to (KS.of_below (X:=XN) D7 lr QO.1.lt)));have n8:=QO.2.2.1;have sm:=QO.2.2.2;have QK:Hid ((((o.setCell (J d (n*6+1) Y) (Q I 0)).setCell (J d (n*6+1+1) Y) (U tx)).setCell (J d (n*6+1+2) Y) (Z Y 0 0)).drew.heap[w.heap.size]?=N (T #[Q I 0,U ⟨#[]⟩,Z Y 0 0] 41 (0,0))):=by have h0:=(QO.2.1.blk _ _ _ _ la (by decide) (by decide) (by decide) fun h=>h).trans la;exact h0
 have W:Hid ((((o.setCell (J d (n*6+1) Y) (Q I 0)).setCell (J d (n*6+1+1) Y) (U tx)).setCell (J d (n*6+1+2) Y) (Z Y 0 0)).drew.heap[rb]?=N (T #[Q I 0,U tx,Z Y 0 0] 41 (0,0))):=by have h0:=(QO.2.1.blk _ _ _ _ M (by decide) (by decide) (by decide) fun h=>h).trans M;exact h0
 have ro:=ae n8;have n9:=ae sm;clear QO ph n8 sm la M K6 S6 R6 mv D7;generalize (((o.setCell (J d (n*6+1) Y) (Q I 0)).setCell (J d (n*6+1+1) Y) (U tx)).setCell (J d (n*6+1+2) Y) (Z Y 0 0)).drew=W7 at S7 K7 QK W ⊢;obtain⟨l,-,-,G,-⟩:=S7.box.facts;obtain⟨hg2B',hg2l',cs7,qr⟩:=af S7.rmd d rfl;have q5:W7.cell? (J d (n*6+5) Y)=N (QA D):=cG (by have h:=S7.rmd;rw[n9.out] at h ⊢;exact h) ro 5 (by omega) rfl;have FJ:W7.frozen? (J d (n*6+5) Y)=D:=by simp[World.frozen?,qr]
 have TD:=ae (S7.upd' n9 ro (j:=5) (by omega) (u:=QA QC) (m':=⟨nm,0,tx,[],Z Y 0 0,QC⟩) rfl (fun _=>⟨rfl,.inl ⟨rfl,rfl⟩⟩));have QQ:Hid ((W7.setCell (J d (n*6+5) Y) (QA QC)).heap[w.heap.size]?=N (T #[Q I 0,U ⟨#[]⟩,Z Y 0 0] 41 (0,0))):=(TD.2.1.blk _ _ _ _ QK (by decide) (by decide) (by decide) fun h=>h).trans QK;have B:Hid ((W7.setCell (J d (n*6+5) Y) (QA QC)).heap[rb]?=N (T #[Q I 0,U tx,Z Y 0 0] 41 (0,0))):=(TD.2.1.blk _ _ _ _ W (by decide) (by decide) (by decide) fun h=>h).trans W;have QN:=ae TD.1;have K8:=ae (K7.to TD.2.1);clear qr;go_upto_region 15 with fail;clear G q5 FJ TD S7 K7 QK W;generalize W7.setCell (J d (n*6+5) Y) (QA QC)=r at QN K8 QQ B ⊢;obtain⟨ao,co,rfl⟩:=ej QN.ror;obtain⟨q,hq⟩:∃ q,q=made.length:=⟨_,rfl⟩
 have HQ:=ae hq;rw[<-hq] at FG;clear hq;obtain⟨l,-,-,-,b3,-⟩:=QN.box.facts;rw[<-HQ.out] at b3;have A9:=ae ((Qs r).alloc lr (T #[U nm] 9));have S9:=ae (QN.below A9 lr);have RO:=ae (by have h:=S9.ror;rw[<-HQ.out] at h;exact h);have Fi:w0.heap.size<=(r.alloc (T #[U nm] 9)).heap.size:=S9.lt;have HG:Hid (∀ k:E,(r.alloc (T #[U nm] 9)).grownBy k (Value.slice ao q co).ownBlock->k.heap[hb]?=(r.alloc (T #[U nm] 9)).heap[hb]?/\k.heap[w.heap.size]?=(r.alloc (T #[U nm] 9)).heap[w.heap.size]?/\k.heap[rb]?=(r.alloc (T #[U nm] 9)).heap[rb]?):=fun k hg=>by
  have fd:∀ (i:Nat) (cs:Array QB) (t:QF) (fz:Nat × Nat),(r.alloc (T #[U nm] 9)).heap[i]?=N (Obj.cells cs t fz)->t≠9->k.heap[i]?=(r.alloc (T #[U nm] 9)).heap[i]?:=fun i cs t fz hi ht=>hg.block i (ai hi) fun e=>by obtain⟨_,_,Fx,hc⟩:=af RO i e.symm;exact ht (ah hi hc)
  exact⟨fd _ _ _ _ S9.box (by decide),fd _ _ _ _ ((A9.block _ (ai QQ)).trans QQ) (by decide),fd _ _ _ _ ((A9.block _ (ai B)).trans B) (by decide)⟩
 have ur:Hid ((r.alloc (T #[U nm] 9)).heap[w.heap.size]?=N (T #[Q I 0,U ⟨#[]⟩,Z Y 0 0] 41 (0,0))):=(A9.block _ (ai QQ)).trans QQ;have FF:Hid ((r.alloc (T #[U nm] 9)).heap[rb]?=N (T #[Q I 0,U tx,Z Y 0 0] 41 (0,0))):=(A9.block _ (ai B)).trans B;have FM:¬ hb=w.heap.size:=fun e=>by have h:=QN.box;unfold ShBox at h;rw[e] at h;exact absurd (ah h QQ) (by decide)
 have Fj:¬ w.heap.size=hb:=fun e=>FM e.symm;have Fs:¬ hb=rb:=fun e=>by have h:=QN.box;unfold ShBox at h;rw[e] at h;exact absurd (ah h B) (by decide)
 have hbr':¬ rb=hb:=fun e=>Fs e.symm
 go_wp2_with (first
  | (at_builtin;refine bu _ rfl (.tmp 100) (.tmp 102) 39 rfl w0.heap.size 9 i1 (U ⟨#[]⟩) 1 16 Tryz.underlying39 Fu FE Fy FL rfl (by decide) (Z ao q co) q (bq (made.map (·.name))) (by simp[Act.eval]) RO.out (J r.heap.size 0 Y) 1 1 [U nm] (by simp[Act.eval]) rfl (li r _ _) (by simp[Value.oneCell']) (by unfold maxLen;omega) (by omega) Fi ?_;intro v9 w9 p g QM;have O9:=ae p;have G9:=ae g;have Fv:=ae QM;have R:=ae (HG w9 g);obtain⟨g9,c9,cu9,rfl,FC⟩:=p.2.resolve_left (fun h=>by omega);clear FC p g QM;obtain⟨hbl9,-,-,-,f3,-,-,-,-,-,ff⟩:=(ShBox.blk S9.box R.1).facts;have ff3:=ff 3;obtain⟨rl,r0,r1,r2,rf⟩:=aZ (R.2.1.trans ur);have rf0:=rf 0;have rf1:=rf 1;have rf2:=rf 2;obtain⟨pl,p0,p1,p2,pf⟩:=aZ (R.2.2.trans FF);clear ff rf pf)
  | fail)
 have DA:=ae (S9.ord (x:=⟨nm,1,0,tx,0,[]⟩) (w':=w9) (v:=Z (N (J g9 0 Y)) (q+1) c9) (by rw[<-HQ.out];exact G9) (by rw[<-HQ.out];exact O9) (by rw[<-HQ.out];exact Fv));refine bp (v:=QE #[Q I 0,U tx,Z Y 0 0]) (by simp[results,Tryz.results167,go_sem,r0,r1,r2]) rfl ?_;have n7:=(qh w9 (J hb 3 Y) (Z (N (J g9 0 Y)) (q+1) c9) w.heap.size Fj).trans (R.2.1.trans ur);refine⟨Z (N (J d 0 Y)) (n+1) A,Z (N (J g9 0 Y)) (q+1) c9,rfl,?_,?_⟩
 ·rw[<-O.out]
  have x0:=DA.1;rw[MG] at x0;replace x0:=x0.setOff n7 ⟨by decide,by decide,by decide,by decide⟩ z 0 (Q I 0);have y0:=aw n7 (j:=0) (Q I 0);have x1:=x0.setOff y0 ⟨by decide,by decide,by decide,by decide⟩ z 1 (U tx);exact x1.setOff (aw y0 (j:=1) (U tx)) ⟨by decide,by decide,by decide,by decide⟩ z 2 (Z Y 0 0)
 ·have k0:=(K8.to (KS.of_below (X:=XN) A9 lr QN.lt)).to DA.2
  exact((k0.fresh lr z 0 _).fresh lr z 1 _).fresh lr z 2 _
end
section
variable {w0:E}{S:Spc}{a0 a1:Option Addr}{c0 c1 hb:Nat}{md or st:QB}{making:List ByteArray}{made:List Ent}{L:List SM}
theorem ze (C:kX w0 S a0 a1)(w:E)(nm:ByteArray)(h:SI w0 hb (Z a0 S.n0 c0) (Z a1 S.n1 c1) w making made L md or st)(qr:L.length<=100000)(QM:making.length=60)(h1:fI L nm=Y)(hi:atL making nm=Y)(tg:Nat)(h3:atI (nm1 S.f1) S.n1 nm=N tg):Calls Tryz.prog 167 #[.pointer (N (J hb 0 Y)),U nm] w fun e w'=>jg w0 hb (Z a0 S.n0 c0) (Z a1 S.n1 c1) making L w e w' (.inr (.inr nm)):=by
 obtain⟨im,th,n9,ph,ur⟩:=eZ kY;obtain⟨i1,hi1,hy0,hy1,hy2⟩:=eZ gL;have QJ:=ae ((Qs w).alloc lr (T #[Q I 0,U ⟨#[]⟩,Z Y 0 0] 41));have kr:Hid ((w.alloc (T #[Q I 0,U ⟨#[]⟩,Z Y 0 0] 41)).heap[w.heap.size]?=N (T #[Q I 0,U ⟨#[]⟩,Z Y 0 0] 41 (0,0))):=eL _ _;have q:=ae (h.below QJ lr);have u:w0.heap.size<=w.heap.size:=h.lt;have e1:dk (fI L nm)=-1:=by rw[h1];rfl
 obtain⟨am,cm,rfl⟩:=ej h.rmd;obtain⟨n,hn⟩:∃ n,n=L.length:=⟨_,rfl⟩
 have G:=ae hn;have CC:=ae C;have hsm:=C.ok.small;have hn1:n<=100000:=by omega
 clear h h1 hn C;obtain⟨es0,es⟩:∃ z,dk (atI (nm0 S.f0) S.n0 nm)=z:=⟨_,rfl⟩
 have et:dk (atI (nm1 S.f1) S.n1 nm)=(tg:Int):=by rw[h3];rfl
 have QL:∀ (j:Nat) (y:ByteArray),making[j]?=N y->(y.toList == nm.toList)=D:=fun j y QN=>by unfold atL at hi;rw[JI] at hi;exact hi y (EQ QN)
 have n7:=ae QL;obtain⟨o,K⟩:∃ o,o=making.length:=⟨_,rfl⟩
 have QQ:=ae K;have hT0:(0:Int)<=(tg:Int):=by omega
 have hT1:=(aT h3).1;rw[<-K] at QM;obtain⟨ast,cst,rfl⟩:=ej q.rst;clear h3 hi QL K;have W:o=60:=by omega
 clear QM;go_enter Tryz.func167,Tryz.ntmps167;go_wp2_with fail;generalize w.alloc (T #[Q I 0,U ⟨#[]⟩,Z Y 0 0] 41)=b at QJ kr q ⊢;refine(gJ b nm q qr).mono ?_;rintro e w1 ⟨rfl,la⟩;rw[la,e1];clear la e1;obtain⟨d,-,-,b2,-⟩:=q.box.facts;rw[<-G.out] at b2;have QG:=ae ((Qs b).alloc lr (T #[U nm,Q I 0,U ⟨#[]⟩,Z Y 0 0,Z Y 0 0,QA D] 239));have H:=ae (q.below QG lr);have RM:=ae (by have h:=H.rmd;rw[<-G.out] at h;exact h);have sm:(b.alloc (T #[U nm,Q I 0,U ⟨#[]⟩,Z Y 0 0,Z Y 0 0,QA D] 239)).heap.size=b.heap.size+1:=by simp
 have HG:Hid (∀ f:E,(b.alloc (T #[U nm,Q I 0,U ⟨#[]⟩,Z Y 0 0,Z Y 0 0,QA D] 239)).grownBy f (Value.slice am n cm).ownBlock->f.heap[hb]?=(b.alloc (T #[U nm,Q I 0,U ⟨#[]⟩,Z Y 0 0,Z Y 0 0,QA D] 239)).heap[hb]?):=fun f hg=>hg.block hb (by omega) fun e=>by obtain⟨_,_,M,g⟩:=af RM hb e.symm;exact absurd (ah H.box g) (by decide)
 have n6:w0.heap.size<=(b.alloc (T #[U nm,Q I 0,U ⟨#[]⟩,Z Y 0 0,Z Y 0 0,QA D] 239)).heap.size:=H.lt;have hz1':b.heap.size<(b.alloc (T #[U nm,Q I 0,U ⟨#[]⟩,Z Y 0 0,Z Y 0 0,QA D] 239)).heap.size:=by omega
 clear sm
 go_upto_region 7 with (first
  | (at_builtin;refine bu _ rfl (.tmp 46) (.tmp 49) 130 rfl w0.heap.size 239 im (QE #[U ⟨#[]⟩,Q I 0,U ⟨#[]⟩,Z Y 0 0,Z Y 0 0,QA D]) 6 96 Tryz.underlying130 th n9 ph ur rfl (by decide) (Z am n cm) n (L.flatMap smV) (by simp[Act.eval]) RM.out (J b.heap.size 0 Y) 1 1 [U nm,Q I 0,U ⟨#[]⟩,Z Y 0 0,Z Y 0 0,QA D] (by simp[Act.eval]) rfl (lg b _ _ _ _ _ _ _) (by simp[Value.oneCell']) (by unfold maxLen;omega) (by omega) n6 ?_;intro v2 f r k Bk;have O2:=ae r;have G2:=ae k;have ld:=ae (HG f k);obtain⟨QK,x,cu2,rfl,DA⟩:=r.2.resolve_left (fun h=>by omega);clear DA r k Bk;obtain⟨mv,-,-,f2,-,-,-,-,-,-,ff⟩:=(ShBox.blk H.box ld).facts;have n8:=ff 2;clear ff)
  | fail)
 have V:=ae (H.addL (m:=dl nm) (w':=f) (v:=Z (N (J QK 0 Y)) (n+1) x) (by rw[<-G.out];exact G2) (by rw[<-G.out];exact O2) rfl);have QP:=ae V.1;have K3:Hid (KS w0.heap.size XN w (f.setCell (J hb 2 Y) (Z (N (J QK 0 Y)) (n+1) x))):=((KS.of_below (X:=XN) QJ lr u).to (KS.of_below QG lr q.lt)).to V.2;have s:Hid ((f.setCell (J hb 2 Y) (Z (N (J QK 0 Y)) (n+1) x)).heap[w.heap.size]?=N (T #[Q I 0,U ⟨#[]⟩,Z Y 0 0] 41 (0,0))):=by have h0:=(QG.block _ (ai kr)).trans kr;exact(V.2.blk _ _ _ _ h0 (by decide) (by decide) (by decide) fun h=>h).trans h0
 have hL1:(L++[dl nm]).length=n+1:=by rw[cM,p8,<-G.out]
 have hLk:Hid ((L++[dl nm])[n]?=N (dl nm)):=by rw[G.out];show _=_;rw[AT lr,JX];rfl
 clear V f2 n8 mv b2 d RM H QG HG O2 G2 ld;generalize f.setCell (J hb 2 Y) (Z (N (J QK 0 Y)) (n+1) x)=W3 at QP K3 s ⊢;obtain⟨d,b0,b1,-⟩:=QP.box.facts;go_wp2_with fail;refine(fa a0 S.n0 c0 a1 S.n1 c1 S.f0 nm W3 (by omega) (CC.src.below QP.bel lr)).mono ?_;rintro e w4 ⟨R,l⟩;rw[es] at R;subst R;have P:=ae (QP.below l lr);have O:Hid (w4.heap[w.heap.size]?=_):=(l.block _ (ai s)).trans s;have K4:=ae (K3.to (KS.of_below (X:=XN) l lr QP.lt));clear l b0 b1 d QP K3 s;obtain⟨d,b0,b1,-⟩:=P.box.facts;go_wp2_with fail;refine(fb a0 S.n0 c0 a1 S.n1 c1 S.f1 nm w4 (by omega) (CC.tgt.below P.bel lr)).mono ?_;rintro e w5 ⟨R,l⟩;rw[et] at R;subst R;have p:=ae (P.below l lr);have fd:Hid (w5.heap[w.heap.size]?=N (T #[Q I 0,U ⟨#[]⟩,Z Y 0 0] 41 (0,0))):=(l.block _ (ai O)).trans O;have K5:=ae (K4.to (KS.of_below (X:=XN) l lr P.lt));clear l b0 b1 d P K4 O QJ q kr;obtain⟨d,-,-,-,-,b4,b5,b6,b7,b8,QO⟩:=p.box.facts;have bf4:=QO 4;have bf5:=QO 5;have bf6:=QO 6;have bf7:=QO 7;have bf8:=QO 8;rw[<-QQ.out] at b4;clear QO;go_wp2_with fail;go_loop [9] (fun i=>∃ j:Nat,j<=o/\i=Q I j) (fun i=>o - (intOf i).toNat);case atStart=>exact⟨0,by omega,rfl⟩
 case round =>
 obtain⟨j,hj,rfl⟩:=hrel;by_cases hlt:j<o
 ·obtain⟨y,QN⟩:∃ y,making[j]?=N y:=⟨_,gq (by have:=QQ.out;omega)⟩
  obtain⟨gs,M,cus,ev,-⟩:=p.rst.2.resolve_left (fun h=>by have:=QQ.out;omega);rw[<-QQ.out] at ev;cases ev
  have dj:w5.cell? (J gs j Y)=N (U y):=nO p.rst QN;have hjm:(j:Int)<(o:Int):=by omega
  have At:=ae (n7 j y QN);clear QN;have hne:=At.out;go_wp2;exact⟨⟨j+1,by omega,by go_num⟩,by simp[intOf];omega⟩
 obtain rfl:j=o:=by omega
 ·subst W
  have B:¬ hb=w.heap.size:=fun e=>by have h:=p.box;unfold ShBox at h;rw[e] at h;exact absurd (ah h fd) (by decide)
  have hbw':¬ w.heap.size=hb:=fun e=>B e.symm;obtain⟨rl,r0,r1,r2,QH⟩:=aZ fd;have rf0:=QH 0;have rf1:=QH 1;have rf2:=QH 2;clear QH;go_wp2_with fail;refine bp (v:=QE #[Q I 7,U nm,Z Y 0 0]) (by simp[results,Tryz.results167,go_sem,r0,r1,r2]) rfl ?_;have aq:=aw p.box (j:=8) (QA QC);have bt:=aw aq (j:=5) (Q I 7);have ex:=aw bt (j:=6) (U nm);have ro:=aw ex (j:=7) (Z Y 0 0);have A:w0.heap.size<=hb:=p.hbB;have k8:=(((K5.to (KS.setCell (X:=XN) _ A (.inr fun M t fz g=>.inr (.inr (ah g p.box))) (QA QC) (j:=8))).to (KS.setCell (X:=XN) _ A (.inr fun M t fz g=>.inr (.inr (ah g aq))) (Q I 7) (j:=5))).to (KS.setCell (X:=XN) _ A (.inr fun M t fz g=>.inr (.inr (ah g bt))) (U nm) (j:=6))).to (KS.setCell (X:=XN) _ A (.inr fun M t fz g=>.inr (.inr (ah g ex))) (Z Y 0 0) (j:=7));refine⟨rfl,⟨_,_,_,_,_,(qh _ _ _ _ B).trans ((qh _ _ _ _ B).trans ((qh _ _ _ _ B).trans ro)),⟨rfl,.inl ⟨rfl,rfl⟩⟩⟩,?_⟩;exact((k8.fresh lr u 0 _).fresh lr u 1 _).fresh lr u 2 _
end
theorem EW {z:Int}(h0:0<=z)(h1:z<=1048576):IntKind.i64.wrap z=z:=by rw[vF];omega
theorem Ev {w w':E}{B n:Nat}{v:QB}{b:List QB}(h:w.ownsRow B 242 3 v n b)(f:KS B XN w w'):w'.ownsRow B 242 3 v n b:=bI h fun k e=>by obtain⟨_,_,cs,d⟩:=af h k e;exact f.blk _ _ _ _ d (by decide) (by decide) (by decide) fun h=>h
theorem LExt.add (n:Nat)(L:List SM){m:SM}(g:m.done=D):LExt n L (L++[m]):=by
 refine⟨fun i f b=>⟨f,?_,rfl⟩,fun f b d=>?_⟩
 ·rw[IK (o3.1 b).1]
  exact b
 ·rcases kS.1 b with b | b
  ·exact .inl ⟨f,b,d,rfl⟩
  ·rw[j3.1 b,g] at d
   cases d
theorem LExt.set {n k:Nat}{L g:List SM}{m d:SM}(h:LExt n L g)(s:g[k]?=N m)(x:d.name=m.name)(t:∀ j,d.sv.ownBlock=N j->n<=j):LExt n L (g.set k d):=by
 refine⟨fun i o b=>?_,fun o b p=>?_⟩
 ·obtain⟨u,l,r⟩:=h.nam i o b
  by_cases f:k=i
  ·subst f
   rw[s] at l;cases l
   exact⟨d,MC (o3.1 s).1,x.trans r⟩
  ·exact⟨u,by rw[List.getElem?_set_ne f];exact l,r⟩
 ·rcases JH b with q | rfl
  ·exact h.sn o q p
  ·exact .inr t
section
variable {w0:E}{S:Spc}{a0 a1:Option Addr}{c0 c1 hb:Nat}{md or st:QB}{making:List ByteArray}{made:List Ent}{L:List SM}
theorem Bt (C:kX w0 S a0 a1)(n':Nat)(HK:mu w0 S hb (Z a0 S.n0 c0) (Z a1 S.n1 c1) n')(w:E)(nm:ByteArray)(GT:making.length+(n'+1)=60)(h:SI w0 hb (Z a0 S.n0 c0) (Z a1 S.n1 c1) w making made L md or st)(hrel:fE L making made)(hp:PG S making made)(ld:eJ S making made 1)(Gh:MT S making)(QN:aK made nm=Y)(hi:atL making nm=Y)(tg:Nat)(h3:atI (nm1 S.f1) S.n1 nm=N tg):Calls Tryz.prog 167 #[.pointer (N (J hb 0 Y)),U nm] w fun e w'=>jg w0 hb (Z a0 S.n0 c0) (Z a1 S.n1 c1) making L w e w' (gF nm tg (bO S (aL S n' (making++[nm])) tg 201 made [] [])):=by
 obtain⟨h1,fd⟩:=zb hrel QN hi;have hmade:made.length<=50000:=by unfold eJ at ld;omega
 have Hw:L.length<=100000:=by have:=hrel.len;omega
 have GN:making.length<60:=by omega
 have ex:=(aT h3).1;obtain⟨R,hR⟩:∃ R,R=bO S (aL S n' (making++[nm])) tg 201 made [] []:=⟨_,rfl⟩
 have HR:=ae hR;obtain⟨tb,Gj,GF,FG⟩:=C.tgt.resolve_left (by omega);have Hj:=ae GF;have Fd:=ae FG;have F8:Hid (∀ (W:E) (Fz FU FL:QB) (a:Option Addr) (FF:Nat),SI w0 hb (Z a0 S.n0 c0) (Z a1 S.n1 c1) W (making++[nm]) made (L++[dl nm]) Fz FU FL->SlIns w0 a (S.f1 tg).actN (S.f1 tg).act->Calls Tryz.prog 217 #[.pointer (N (J hb 0 Y)),QE #[Z a (S.f1 tg).actN FF]] W fun e w'=>nN w0 hb (Z a0 S.n0 c0) (Z a1 S.n1 c1) (making++[nm]) (L++[dl nm]) W e w' R):=by
  intro W Fz FU FL a FF hS Ft;rw[hR];refine Bp C n' HK made _ Fz FU FL W a FF tg (by rw[cM,p8];omega) hS (qu hrel fd rfl rfl) (gH hp QN) ?_ ?_ ex Ft
  ·have:=fG ex (aT h3).2 QN hi
   unfold eJ at ld ⊢;omega
  ·intro t ht
   rcases kS.1 ht with ht | ht
   ·exact Gh t ht
   ·rw[j3.1 ht,h3];rfl
 have HI:=ae hi;have H0:=ae QN;have Gv:Hid (∀ l x,R=.inl (l,x)->l.length<=100000/\∀ y∈l,y.name≠nm):=by intro l x he;rw[hR] at he;have g1:=fU C.ok ex (cP C.ok n' (making++[nm])) _ _ _ _ _ _ (gH hp QN) (gn S made) rfl he;have g2:=pX (fun made Hb Gc e=>gj S n' (making++[nm]) made Hb Gc e) _ _ _ _ _ _ he;have g3:=fG ex (aT h3).2 QN hi;refine⟨?_,(iP g1.1).2⟩;unfold fq at g2;unfold eJ at ld;omega
 have GH:=ae fd;have HREL:=ae hrel;rw[<-hR];clear HK hp ld Gh QN FG GF hR fd hrel;obtain⟨im,Hy,Hv,ph,FP⟩:=eZ kY;obtain⟨i1,Gf,Gw,Gg,GE⟩:=eZ gL;have A0:=ae ((Qs w).alloc lr (T #[Q I 0,U ⟨#[]⟩,Z Y 0 0] 41));have kr:Hid ((w.alloc (T #[Q I 0,U ⟨#[]⟩,Z Y 0 0] 41)).heap[w.heap.size]?=N (T #[Q I 0,U ⟨#[]⟩,Z Y 0 0] 41 (0,0))):=eL _ _;have S0:=ae (h.below A0 lr);have s:w0.heap.size<=w.heap.size:=h.lt;have e1:dk (fI L nm)=-1:=by rw[h1];rfl
 obtain⟨am,cm,rfl⟩:=ej h.rmd;obtain⟨n,hn⟩:∃ n,n=L.length:=⟨_,rfl⟩
 have HN:=ae hn;have CC:=ae C;have hsm:=C.ok.small;have hn1:n<=100000:=by omega
 clear h h1 hn C;obtain⟨es0,es⟩:∃ z,dk (atI (nm0 S.f0) S.n0 nm)=z:=⟨_,rfl⟩
 clear ex;have et:dk (atI (nm1 S.f1) S.n1 nm)=(tg:Int):=by rw[h3];rfl
 have FK:∀ (j:Nat) (y:ByteArray),making[j]?=N y->(y.toList == nm.toList)=D:=fun j y hy=>by unfold atL at hi;rw[JI] at hi;exact hi y (EQ hy)
 have Hr:=ae FK;obtain⟨ms,FM⟩:∃ ms,ms=making.length:=⟨_,rfl⟩
 have P:=ae FM;have hT0:(0:Int)<=(tg:Int):=by omega
 have ex:=(aT h3).1;rw[<-FM] at GN;obtain⟨Gq,Ge,rfl⟩:=ej S0.rst;clear h3 hi FK FM;clear GT;go_enter Tryz.func167,Tryz.ntmps167;go_wp2_with fail;generalize w.alloc (T #[Q I 0,U ⟨#[]⟩,Z Y 0 0] 41)=W0 at A0 kr S0 ⊢;refine(gJ W0 nm S0 Hw).mono ?_;rintro e w1 ⟨rfl,Gn⟩;rw[Gn,e1];clear Gn e1;obtain⟨B,-,-,b2,-⟩:=S0.box.facts;rw[<-HN.out] at b2;have A1:=ae ((Qs W0).alloc lr (T #[U nm,Q I 0,U ⟨#[]⟩,Z Y 0 0,Z Y 0 0,QA D] 239));have SA:=ae (S0.below A1 lr);have RM:=ae (by have h:=SA.rmd;rw[<-HN.out] at h;exact h);have Hh:(W0.alloc (T #[U nm,Q I 0,U ⟨#[]⟩,Z Y 0 0,Z Y 0 0,QA D] 239)).heap.size=W0.heap.size+1:=by simp
 have HG:Hid (∀ G:E,(W0.alloc (T #[U nm,Q I 0,U ⟨#[]⟩,Z Y 0 0,Z Y 0 0,QA D] 239)).grownBy G (Value.slice am n cm).ownBlock->G.heap[hb]?=(W0.alloc (T #[U nm,Q I 0,U ⟨#[]⟩,Z Y 0 0,Z Y 0 0,QA D] 239)).heap[hb]?):=fun G hg=>hg.block hb (by omega) fun e=>by obtain⟨_,_,cs,hc⟩:=af RM hb e.symm;exact absurd (ah SA.box hc) (by decide)
 have GM:w0.heap.size<=(W0.alloc (T #[U nm,Q I 0,U ⟨#[]⟩,Z Y 0 0,Z Y 0 0,QA D] 239)).heap.size:=SA.lt;have hz1':W0.heap.size<(W0.alloc (T #[U nm,Q I 0,U ⟨#[]⟩,Z Y 0 0,Z Y 0 0,QA D] 239)).heap.size:=by omega
 clear Hh
 go_upto_region 7 with (first
  | (at_builtin;refine bu _ rfl (.tmp 46) (.tmp 49) 130 rfl w0.heap.size 239 im (QE #[U ⟨#[]⟩,Q I 0,U ⟨#[]⟩,Z Y 0 0,Z Y 0 0,QA D]) 6 96 Tryz.underlying130 Hy Hv ph FP rfl (by decide) (Z am n cm) n (L.flatMap smV) (by simp[Act.eval]) RM.out (J W0.heap.size 0 Y) 1 1 [U nm,Q I 0,U ⟨#[]⟩,Z Y 0 0,Z Y 0 0,QA D] (by simp[Act.eval]) rfl (lg W0 _ _ _ _ _ _ _) (by simp[Value.oneCell']) (by unfold maxLen;omega) (by omega) GM ?_;intro v2 G QQ r n7;have O2:=ae QQ;have G2:=ae r;have Gp:=ae (HG G r);obtain⟨g2,Fx,cu2,rfl,Ih⟩:=QQ.2.resolve_left (fun h=>by omega);clear Ih QQ r n7;obtain⟨GQ,-,-,f2,-,-,-,-,-,-,ff⟩:=(ShBox.blk SA.box Gp).facts;have Hz:=ff 2;clear ff)
  | fail)
 have SX:=ae (SA.addL (m:=dl nm) (w':=G) (v:=Z (N (J g2 0 Y)) (n+1) Fx) (by rw[<-HN.out];exact G2) (by rw[<-HN.out];exact O2) rfl);have S3:=ae SX.1;have K3:Hid (KS w0.heap.size XN w (G.setCell (J hb 2 Y) (Z (N (J g2 0 Y)) (n+1) Fx))):=((KS.of_below (X:=XN) A0 lr s).to (KS.of_below A1 lr S0.lt)).to SX.2;have Fk:Hid ((G.setCell (J hb 2 Y) (Z (N (J g2 0 Y)) (n+1) Fx)).heap[w.heap.size]?=N (T #[Q I 0,U ⟨#[]⟩,Z Y 0 0] 41 (0,0))):=by have QN:=(A1.block _ (ai kr)).trans kr;exact(SX.2.blk _ _ _ _ QN (by decide) (by decide) (by decide) fun h=>h).trans QN
 have qr:(L++[dl nm]).length=n+1:=by rw[cM,p8,<-HN.out]
 have la:Hid ((L++[dl nm])[n]?=N (dl nm)):=by rw[HN.out];show _=_;rw[AT lr,JX];rfl
 clear SX f2 Hz GQ b2 B RM SA A1 HG O2 G2 Gp;generalize G.setCell (J hb 2 Y) (Z (N (J g2 0 Y)) (n+1) Fx)=W3 at S3 K3 Fk ⊢;obtain⟨B,b0,b1,-⟩:=S3.box.facts;go_wp2_with fail;refine(fa a0 S.n0 c0 a1 S.n1 c1 S.f0 nm W3 (by omega) (CC.src.below S3.bel lr)).mono ?_;rintro e w4 ⟨he,hB⟩;rw[es] at he;subst he;have S4:=ae (S3.below hB lr);have FI:Hid (w4.heap[w.heap.size]?=_):=(hB.block _ (ai Fk)).trans Fk;have K4:=ae (K3.to (KS.of_below (X:=XN) hB lr S3.lt));clear hB b0 b1 B S3 K3 Fk;obtain⟨B,b0,b1,-⟩:=S4.box.facts;go_wp2_with fail;refine(fb a0 S.n0 c0 a1 S.n1 c1 S.f1 nm w4 (by omega) (CC.tgt.below S4.bel lr)).mono ?_;rintro e w5 ⟨he,hB⟩;rw[et] at he;subst he;have S5:=ae (S4.below hB lr);have FT:Hid (w5.heap[w.heap.size]?=N (T #[Q I 0,U ⟨#[]⟩,Z Y 0 0] 41 (0,0))):=(hB.block _ (ai FI)).trans FI;have K5:=ae (K4.to (KS.of_below (X:=XN) hB lr S4.lt));clear hB b0 b1 B S4 K4 FI A0 S0 kr;obtain⟨B,-,-,-,-,b4,b5,b6,b7,b8,bf⟩:=S5.box.facts;have FD:=bf 4;have GY:=bf 5;have Hn:=bf 6;have Ig:=bf 7;have H6:=bf 8;rw[<-P.out] at b4;clear bf;go_wp2_with fail;go_loop [9] (fun i=>∃ j:Nat,j<=ms/\i=Q I j) (fun i=>ms - (intOf i).toNat);case atStart=>exact⟨0,by omega,rfl⟩
 case round =>
 obtain⟨j,hj,rfl⟩:=hrel;by_cases hlt:j<ms
 ·obtain⟨y,hy⟩:∃ y,making[j]?=N y:=⟨_,gq (by have:=P.out;omega)⟩
  obtain⟨gs,cs,cus,ev,-⟩:=S5.rst.2.resolve_left (fun h=>by have:=P.out;omega);rw[<-P.out] at ev;cases ev
  have dj:w5.cell? (J gs j Y)=N (U y):=nO S5.rst hy;have hjm:(j:Int)<(ms:Int):=by omega
  have GH:=ae (Hr j y hy);clear hy;have fd:=GH.out;go_wp2;exact⟨⟨j+1,by omega,by go_num⟩,by simp[intOf];omega⟩
 obtain rfl:j=ms:=by omega
 ·have hI60:¬ (60:Int)<=(j:Int):=by omega
  clear b5 b6 b7 b8 GY Hn Ig H6;have A6:=ae ((Qs w5).alloc lr (T #[U nm] 9));have QM:=ae (S5.below A6 lr);have RS:=ae (by have h:=QM.rst;rw[<-P.out] at h;exact h);have Fy:w0.heap.size<=(w5.alloc (T #[U nm] 9)).heap.size:=QM.lt;obtain⟨q0,aa,ca,q1,-⟩:=(Fd.below QM.bel lr).2 tg ex;obtain⟨-,aa',ca',Gt,Ft⟩:=Fd.2 tg ex;have Fh:=Fd.1;have e1:=(QM.bel.cell (p:=(J tb (Gj+tg*2+1) Y)) Fh).trans Gt;rw[q1] at e1;simp only[E2,CL,LR] at e1;obtain⟨rfl,rfl⟩:=e1;have Ht:=ae Ft;have Q1:=ae q1;clear q0 q1 Gt Ft;have FS:Hid ((w5.alloc (T #[U nm] 9)).heap[w.heap.size]?=N (T #[Q I 0,U ⟨#[]⟩,Z Y 0 0] 41 (0,0))):=(A6.block _ (ai FT)).trans FT;have HG:Hid (∀ G:E,(w5.alloc (T #[U nm] 9)).grownBy G (Value.slice Gq j Ge).ownBlock->G.heap[hb]?=(w5.alloc (T #[U nm] 9)).heap[hb]?/\G.heap[tb]?=(w5.alloc (T #[U nm] 9)).heap[tb]?):=fun G hg=>by
   refine⟨hg.block hb (ai QM.box) fun e=>?_,hg.block tb (ll Fh Fy) fun e=>?_⟩
   ·obtain⟨_,_,Fv,hc⟩:=af RS hb e.symm
    exact absurd (ah QM.box hc) (by decide)
   ·have:=(af RS tb e.symm).1
    omega
  have Hp:w0.heap.size<=hb:=S5.hbB;have htbh:¬ tb=hb:=by omega
  have htbh':¬ hb=tb:=by omega
  have htI:(tg:Int)<(S.n1:Int):=by omega
  go_wp2_with (first
   | (at_builtin;refine bu _ rfl (.tmp 166) (.tmp 168) 39 rfl w0.heap.size 9 i1 (U ⟨#[]⟩) 1 16 Tryz.underlying39 Gf Gw Gg GE rfl (by decide) (Z Gq j Ge) j (bq making) (by simp[Act.eval]) RS.out (J w5.heap.size 0 Y) 1 1 [U nm] (by simp[Act.eval]) rfl (li w5 _ _) (by simp[Value.oneCell']) (by unfold maxLen;omega) (by omega) Fy ?_;intro v7 w7 QQ r n7;have O7:=ae QQ;have G7:=ae r;have Gx:=ae n7;have FN:=ae (HG w7 r);obtain⟨g7,c7,cu7,rfl,Hl⟩:=QQ.2.resolve_left (fun h=>by omega);clear Hl QQ r n7;obtain⟨FE,-,f1,-,-,f4,-,-,-,-,ff⟩:=(ShBox.blk QM.box FN.1).facts;have Id:=ff 4;rw[Hj.out] at f1;have f9:=(cq (a:=(J tb (Gj+tg*2+1) Y)) FN.2).trans Q1.out;have Ha:tb<w7.heap.size:=(ll (ll Fh Hp) (KI FE));clear ff)
   | fail)
  have SP:=ae (QM.push (nm:=nm) (w':=w7) (v:=Z (N (J g7 0 Y)) (j+1) c7) (by rw[<-P.out];exact G7) (by rw[<-P.out];exact O7) (by rw[<-P.out];exact Gx));have S7:=ae SP.1;have K7:Hid (KS w0.heap.size XN w (w7.setCell (J hb 4 Y) (Z (N (J g7 0 Y)) (j+1) c7))):=(K5.to (KS.of_below (X:=XN) A6 lr S5.lt)).to SP.2;have QO:Hid ((w7.setCell (J hb 4 Y) (Z (N (J g7 0 Y)) (j+1) c7)).heap[w.heap.size]?=N (T #[Q I 0,U ⟨#[]⟩,Z Y 0 0] 41 (0,0))):=(SP.2.blk _ _ _ _ FS (by decide) (by decide) (by decide) fun h=>h).trans FS;clear SP f1 f4 f9 Id FE Ha O7 G7 Gx FN HG RS QM A6 FS Q1 S5 K5 FT b4 FD B;generalize w7.setCell (J hb 4 Y) (Z (N (J g7 0 Y)) (j+1) c7)=W7 at S7 K7 QO ⊢;refine(F8 W7 _ _ _ aa ca S7 Ht).mono ?_;clear F8;rintro e QK th;rcases R with ⟨l,x⟩ | c | d
  ·obtain⟨L1,md1,Ia,st1,gx,cx,rfl,DA,mv,Fr,GP,F7,H⟩:=th
   obtain⟨GI,FA⟩:=Gv.out l x rfl;clear Gv;obtain⟨g,FZ⟩:∃ g,g=x.1.code:=⟨_,rfl⟩
   obtain⟨f,FJ⟩:∃ f,f=x.1.text:=⟨_,rfl⟩
   obtain⟨ls,Fu⟩:∃ ls,ls=x.2:=⟨_,rfl⟩
   obtain⟨ln,Fl⟩:∃ ln,ln=ls.length:=⟨_,rfl⟩
   have F9:gF nm tg (.inl (l,x))=.inl ((l++[⟨nm,3,g,f,tg,ls⟩]),⟨nm,3,g,f,tg,ls⟩):=by rw[FZ,FJ,Fu];rfl
   have GK:=ae F9;rw[<-Fu,<-Fl] at Fr;rw[<-FZ,<-FJ,<-Fu,<-Fl];clear F9 FZ FJ Fu;have GL:=ae Fl;clear Fl;obtain⟨m1,ph,n8⟩:=F7.nam n (dl nm) la;replace n8:m1.name=nm:=n8;have Hk:Hid (m1.done=D):=by
    obtain⟨m2,FP,e2,e3⟩:=mv.mkg nm (I7 _ (j3.2 rfl));obtain⟨i2,FQ⟩:=I8 FP;have e4:=vu mv.nod FQ ph (e2.trans n8.symm);rw[e4,ph] at FQ;cases FQ
    exact e3
   have la:=ae ph;obtain⟨QL,hN⟩:∃ QL,QL=L1.length:=⟨_,rfl⟩
   have qr:L1.length=QL:=hN.symm;have hnN:n<QL:=by rw[hN];exact(o3.1 ph).1
   obtain⟨b,Bk,cum,rfl,-⟩:=DA.rmd.2.resolve_left (fun h=>by omega);obtain⟨gp,QP,cup,rfl,Gy⟩:=DA.rst.2.resolve_left (fun h=>by rw[cM,p8] at h;omega);have hcp:j+1<=QP:=by have:=Gy.2.2.1;rw[cM,p8,<-P.out] at this;exact this
   rw[qr,cM,p8,<-P.out] at DA;have KW:=ae (K7.to H);have o:Hid (QK.heap[w.heap.size]?=N (T #[Q I 0,U ⟨#[]⟩,Z Y 0 0] 41 (0,0))):=(H.blk _ _ _ _ QO (by decide) (by decide) (by decide) fun h=>h).trans QO;have FW:w.heap.size<=W7.heap.size:=K7.below.size;have X8:=ae (((LExt.add w.heap.size L (m:=dl nm) rfl).trans F7 FW));have Hg:Hid (w.heap.size<=gx):=j5 FW (af Fr gx rfl).1;have G8:=ae (aI Fr (j5 s FW));have GJ:=ae mv;have hw8:w.heap.size<=QK.heap.size:=KW.below.size;have FV:=ae DA;have F0:=ae n8;have GS:=ae FA;clear DA mv Fr GP F7 H n8 ph FA Gy S7 K7 QO hN;have A:=ae ((Qs QK).alloc lr (T #[Q I g,U f,Z Y 0 0] 41));have kb:Hid ((QK.alloc (T #[Q I g,U f,Z Y 0 0] 41)).heap[QK.heap.size]?=N (T #[Q I g,U f,Z Y 0 0] 41 (0,0))):=eL _ _;have Fs:=ae (FV.below A lr);have K9:=ae (KS.of_below (X:=XN) A lr FV.lt);have Fq:Hid ((QK.alloc (T #[Q I g,U f,Z Y 0 0] 41)).heap[w.heap.size]?=N (T #[Q I 0,U ⟨#[]⟩,Z Y 0 0] 41 (0,0))):=(A.block _ (ai o)).trans o;go_upto_region 30 with fail;generalize QK.alloc (T #[Q I g,U f,Z Y 0 0] 41)=O at A kb Fs K9 Fq ⊢;obtain⟨rb,Gk⟩:∃ rb,rb=QK.heap.size:=⟨_,rfl⟩
   rw[<-Gk] at kb ⊢;have hrbw:w.heap.size<=rb:=by omega
   clear Gk A FV o;obtain⟨B,-,-,-,-,b4,-,-,-,b8,bf⟩:=Fs.box.facts;have FD:=bf 4;clear bf;go_upto_region 32 with fail;have Hm:IntKind.i64.wrap (j:Int)=(j:Int):=EW (by omega) (by omega);have Ie:(0:Int)<=(j:Int):=by omega
   have Hu:(j:Int)<=(QP:Int):=by omega
   refine bm (fun V=>V.cell? (J hb 4 Y)=N (Z (N (J gp 0 Y)) (j+1) QP)) 14 (by as_aux_lemma=>kernel_rfl) ?_;have HS:Hid (O.drew.cell? (J hb 4 Y)=N (Z (N (J gp 0 Y)) (j+1) QP)):=b4
   iterate 10
    refine bw 0 (v:=?_) rfl rfl (by as_aux_lemma=>kernel_rfl) (fun _ _ _ h=>h) rfl ?_ HS ?_;rotate_left
    ·(intro wz s0;go_simp)
     (try with_reducible rfl)
    (try simp only[Act.put,nzL])
   refine eK (i:=10) (v:=Q I (j:Int)) rfl (by as_aux_lemma=>kernel_rfl) (by as_aux_lemma=>kernel_rfl) (by as_aux_lemma=>kernel_rfl) (by as_aux_lemma=>kernel_rfl) (fun _ _ _ h=>h) rfl ?_ HS ?_
   ·intro wz s0
    go_simp
   (try simp only[Act.put,nzL])
   refine eK (i:=11) (v:=Z (N (J gp 0 Y)) j QP) rfl (by as_aux_lemma=>kernel_rfl) (by as_aux_lemma=>kernel_rfl) (by as_aux_lemma=>kernel_rfl) (by as_aux_lemma=>kernel_rfl) (fun _ _ _ h=>h) rfl ?_ HS ?_
   ·intro wz s0
    go_simp
   (try simp only[Act.put,nzL])
   iterate 2
    refine df 12 rfl rfl (by as_aux_lemma=>kernel_rfl) (fun K hK=>?_);go_simp;refine hK _ _ (fun _=>HS) ?_;clear hK K
    (try simp only[Act.put,nzL])
   have PP:Hid (SI w0 hb (Z a0 S.n0 c0) (Z a1 S.n1 c1) (O.setCell (J hb 4 Y) (Z (N (J gp 0 Y)) j QP)) making l L1 (Z (N (J b 0 Y)) QL Bk) Ia (Z (N (J gp 0 Y)) j QP)/\KS w0.heap.size XN O (O.setCell (J hb 4 Y) (Z (N (J gp 0 Y)) j QP))):=by have h:=Fs.out;rw[P.out] at h ⊢;exact h.pop
   refine ar (i:=14) rfl (by as_aux_lemma=>kernel_rfl) (fun K hK=>?_);go_simp;refine hK _ _ (fun h=>absurd rfl h) ?_;clear hK K HS b4 FD b8
   (try simp only[Act.put])
   refine bJ (by as_aux_lemma=>kernel_rfl) ?_ _;have D6:Hid (Below (O.setCell (J hb 4 Y) (Z (N (J gp 0 Y)) j QP)).heap.size (O.setCell (J hb 4 Y) (Z (N (J gp 0 Y)) j QP)) (O.setCell (J hb 4 Y) (Z (N (J gp 0 Y)) j QP)).drew):=br.drew;have QM:=ae (PP.1.below D6 lr);have K6:=ae ((K9.to PP.2).to (KS.of_below (X:=XN) D6 lr PP.1.lt));have Fw:Hid ((O.setCell (J hb 4 Y) (Z (N (J gp 0 Y)) j QP)).drew.heap[w.heap.size]?=N (T #[Q I 0,U ⟨#[]⟩,Z Y 0 0] 41 (0,0))):=(PP.2.blk _ _ _ _ Fq (by decide) (by decide) (by decide) fun h=>h).trans Fq;have FH:Hid ((O.setCell (J hb 4 Y) (Z (N (J gp 0 Y)) j QP)).drew.heap[rb]?=N (T #[Q I g,U f,Z Y 0 0] 41 (0,0))):=(PP.2.blk _ _ _ _ kb (by decide) (by decide) (by decide) fun h=>h).trans kb;clear PP D6 Fs K9 Fq kb Hm Ie Hu B;generalize (O.setCell (J hb 4 Y) (Z (N (J gp 0 Y)) j QP)).drew=QG at QM K6 Fw FH ⊢;have kb:=ae FH.out;clear FH;go_upto_region 33 with fail;obtain⟨B,-,-,b2,-⟩:=QM.box.facts;obtain⟨rl,r0,r1,r2,-⟩:=aZ kb;obtain⟨hg2B,hg2l,Fv,FY⟩:=af QM.rmd b rfl;have Ga:=ae FY;have R6:Hid (QG.ownsRow w0.heap.size 239 6 (Z (N (J b 0 Y)) QL Bk) QL (L1.flatMap smV)):=by have h:=QM.rmd;rw[qr] at h;exact h
   have q1:QG.cell? (J b (n*6+1) Y)=N (Q I m1.code):=cG (by rw[qr];exact R6) la 1 (by omega) rfl;have q2:QG.cell? (J b (n*6+1+1) Y)=N (U m1.text):=cG (by rw[qr];exact R6) la 2 (by omega) rfl;have q3:QG.cell? (J b (n*6+1+2) Y)=N (Z Y 0 0):=cG (by rw[qr];exact R6) la 3 (by omega) rfl;have qf:∀ j,QG.frozen? (J b j Y)=D:=fun j=>by simp[World.frozen?,FY]
   have GW:=qf (n*6+1);have Ic:=qf (n*6+1+1);have Hd:=qf (n*6+1+2);clear qf FY;have hIn:(n:Int)<(QL:Int):=by omega
   have Fi:b≠hb:=by intro e;have h:=Ga.out;rw[e] at h;exact absurd (ah h QM.box) (by decide)
   have M:b≠rb:=by intro e;have h:=Ga.out;rw[e] at h;exact absurd (ah h kb) (by decide)
   refine wp_region_held_drew (S:=fun V=>V.cell? (J hb 2 Y)=N (Z (N (J b 0 Y)) QL Bk)/\V.cell? (J rb 0 Y)=N (Q I g)/\V.cell? (J rb 1 Y)=N (U f)/\V.cell? (J rb 2 Y)=N (Z Y 0 0)) (by as_aux_lemma=>kernel_rfl) ⟨b2,r0,r1,r2⟩ (fun hS=>?_);have HS:=ae hS;clear hS
   iterate 8
    first | refine bS 0 (v:=?_) rfl rfl (by as_aux_lemma=>kernel_rfl) (fun _ _ _ h=>h) rfl ?_ HS ?_ | refine bS 4 (v:=?_) rfl rfl (by as_aux_lemma=>kernel_rfl) (fun _ _ _ h=>h) rfl ?_ HS ?_
    rotate_left
    ·(intro wz GU;obtain⟨s0,s1,s2,s3⟩:=GU;go_simp)
     (try with_reducible rfl)
    (try simp only[Act.put,nzL])
   have TL:=ae (QM.told qr la Hk g f)
   have Gz:Hid ((((QG.setCell (J b (n*6+1) Y) (Q I g)).setCell (J b (n*6+1+1) Y) (U f)).setCell (J b (n*6+1+2) Y) (Z Y 0 0)).drew.cell? (J hb 2 Y)=N (Z (N (J b 0 Y)) QL Bk)/\(((QG.setCell (J b (n*6+1) Y) (Q I g)).setCell (J b (n*6+1+1) Y) (U f)).setCell (J b (n*6+1+2) Y) (Z Y 0 0)).drew.cell? (J rb 0 Y)=N (Q I g)/\(((QG.setCell (J b (n*6+1) Y) (Q I g)).setCell (J b (n*6+1+1) Y) (U f)).setCell (J b (n*6+1+2) Y) (Z Y 0 0)).drew.cell? (J rb 1 Y)=N (U f)/\(((QG.setCell (J b (n*6+1) Y) (Q I g)).setCell (J b (n*6+1+1) Y) (U f)).setCell (J b (n*6+1+2) Y) (Z Y 0 0)).drew.cell? (J rb 2 Y)=N (Z Y 0 0)) :=
    ⟨(cell_far _ _ _ _ Fi).trans ((cell_far _ _ _ _ Fi).trans ((cell_far _ _ _ _ Fi).trans b2)),(cell_far _ _ _ _ M).trans ((cell_far _ _ _ _ M).trans ((cell_far _ _ _ _ M).trans r0)),(cell_far _ _ _ _ M).trans ((cell_far _ _ _ _ M).trans ((cell_far _ _ _ _ M).trans r1)),(cell_far _ _ _ _ M).trans ((cell_far _ _ _ _ M).trans ((cell_far _ _ _ _ M).trans r2))⟩
   refine bN (i:=8) rfl (by as_aux_lemma=>kernel_rfl) (fun K hK=>?_);go_simp;refine hK _ _ Gz ?_;clear hK K HS q1 q2 q3 GW Ic Hd b2 r0 r1 r2 rl
   (try simp only[Act.put])
   refine wpAnyH_done (by as_aux_lemma=>kernel_rfl) ?_ _;have D7:Hid (Below (((QG.setCell (J b (n*6+1) Y) (Q I g)).setCell (J b (n*6+1+1) Y) (U f)).setCell (J b (n*6+1+2) Y) (Z Y 0 0)).heap.size (((QG.setCell (J b (n*6+1) Y) (Q I g)).setCell (J b (n*6+1+1) Y) (U f)).setCell (J b (n*6+1+2) Y) (Z Y 0 0)) (((QG.setCell (J b (n*6+1) Y) (Q I g)).setCell (J b (n*6+1+1) Y) (U f)).setCell (J b (n*6+1+2) Y) (Z Y 0 0)).drew):=br.drew;have S7:=ae (TL.1.below D7 lr);have K7:=ae (K6.to (TL.2.1.to (KS.of_below (X:=XN) D7 lr TL.1.lt)));have Gs:=TL.2.2.1;have GC:=TL.2.2.2;have QO:Hid ((((QG.setCell (J b (n*6+1) Y) (Q I g)).setCell (J b (n*6+1+1) Y) (U f)).setCell (J b (n*6+1+2) Y) (Z Y 0 0)).drew.heap[w.heap.size]?=N (T #[Q I 0,U ⟨#[]⟩,Z Y 0 0] 41 (0,0))):=by have QN:=(TL.2.1.blk _ _ _ _ Fw (by decide) (by decide) (by decide) fun h=>h).trans Fw;exact QN
   have Fp:Hid ((((QG.setCell (J b (n*6+1) Y) (Q I g)).setCell (J b (n*6+1+1) Y) (U f)).setCell (J b (n*6+1+2) Y) (Z Y 0 0)).drew.heap[rb]?=N (T #[Q I g,U f,Z Y 0 0] 41 (0,0))):=by have QN:=(TL.2.1.blk _ _ _ _ kb (by decide) (by decide) (by decide) fun h=>h).trans kb;exact QN
   have FO:=ae Gs;have F3:=ae GC;clear TL Gz Gs GC Fw kb K6 QM R6 Ga D7;generalize (((QG.setCell (J b (n*6+1) Y) (Q I g)).setCell (J b (n*6+1+1) Y) (U f)).setCell (J b (n*6+1+2) Y) (Z Y 0 0)).drew=W7 at S7 K7 QO Fp ⊢;have OS:=ae G8.out;obtain⟨B,-,-,b2,-⟩:=S7.box.facts;obtain⟨Gd,Gb,Hq,DQ⟩:=af S7.rmd b rfl;have q4:W7.cell? (J b (n*6+4) Y)=N m1.sv:=cG (by have h:=S7.rmd;rw[F3.out] at h ⊢;exact h) FO 4 (by omega) rfl;have Hf:W7.frozen? (J b (n*6+4) Y)=D:=by simp[World.frozen?,DQ]
   have TD:=ae (S7.upd' F3 FO (j:=4) (by omega) (u:=Z (N (J gx 0 Y)) ln cx) (m':=⟨m1.name,g,f,ls,Z (N (J gx 0 Y)) ln cx,D⟩) rfl (fun h=>by cases h));have At:Hid ((W7.setCell (J b (n*6+4) Y) (Z (N (J gx 0 Y)) ln cx)).heap[w.heap.size]?=N (T #[Q I 0,U ⟨#[]⟩,Z Y 0 0] 41 (0,0))):=(TD.2.1.blk _ _ _ _ QO (by decide) (by decide) (by decide) fun h=>h).trans QO;have ur:Hid ((W7.setCell (J b (n*6+4) Y) (Z (N (J gx 0 Y)) ln cx)).heap[rb]?=N (T #[Q I g,U f,Z Y 0 0] 41 (0,0))):=(TD.2.1.blk _ _ _ _ Fp (by decide) (by decide) (by decide) fun h=>h).trans Fp;have sm:=ae TD.1;have Fm:=ae (K7.to TD.2.1);have F4:=ae TD.2.2.1;have FX:=ae TD.2.2.2;clear DQ;go_upto_region 35 with fail;clear b2 q4 Hf TD S7 K7 QO Fp FO F3;generalize W7.setCell (J b (n*6+4) Y) (Z (N (J gx 0 Y)) ln cx)=DE at sm Fm At ur ⊢;have Ho:=ae (Ev OS Fm);obtain⟨B,-,-,b2,-⟩:=sm.box.facts;obtain⟨Gd,Gb,Hq,DQ⟩:=af sm.rmd b rfl;have q5:DE.cell? (J b (n*6+5) Y)=N (QA D):=cG (by have h:=sm.rmd;rw[FX.out] at h ⊢;exact h) F4 5 (by omega) rfl;have Hi:DE.frozen? (J b (n*6+5) Y)=D:=by simp[World.frozen?,DQ]
   have TD:=ae (sm.upd' FX F4 (j:=5) (by omega) (u:=QA QC) (m':=⟨m1.name,g,f,ls,Z (N (J gx 0 Y)) ln cx,QC⟩) rfl (fun _=>(by rw[<-GL.out];exact Ho)));have o:Hid ((DE.setCell (J b (n*6+5) Y) (QA QC)).heap[w.heap.size]?=N (T #[Q I 0,U ⟨#[]⟩,Z Y 0 0] 41 (0,0))):=(TD.2.1.blk _ _ _ _ At (by decide) (by decide) (by decide) fun h=>h).trans At;have ro:Hid ((DE.setCell (J b (n*6+5) Y) (QA QC)).heap[rb]?=N (T #[Q I g,U f,Z Y 0 0] 41 (0,0))):=(TD.2.1.blk _ _ _ _ ur (by decide) (by decide) (by decide) fun h=>h).trans ur;have S8:=ae TD.1;have K8:=ae (Fm.to TD.2.1);clear DQ;go_upto_region 36 with fail;clear b2 q5 Hi TD sm Fm At ur;generalize DE.setCell (J b (n*6+5) Y) (QA QC)=W8 at S8 K8 o ro ⊢;obtain⟨ao,co,rfl⟩:=ej S8.ror;obtain⟨q,hq⟩:∃ q,q=l.length:=⟨_,rfl⟩
   have HQ:=ae hq;rw[<-hq] at GI;clear hq;obtain⟨B,-,-,-,b3,-⟩:=S8.box.facts;rw[<-HQ.out] at b3;have A:=ae ((Qs W8).alloc lr (T #[U nm] 9));have S9:=ae (S8.below A lr);have RO:Hid ((W8.alloc (T #[U nm] 9)).ownsRow w0.heap.size 9 1 (Z ao q co) q (bq (l.map (·.name)))):=by have h:=S9.ror;rw[<-HQ.out] at h;exact h
   have GO:w0.heap.size<=(W8.alloc (T #[U nm] 9)).heap.size:=S9.lt;have HG:Hid (∀ G:E,(W8.alloc (T #[U nm] 9)).grownBy G (Value.slice ao q co).ownBlock->G.heap[hb]?=(W8.alloc (T #[U nm] 9)).heap[hb]?/\G.heap[w.heap.size]?=(W8.alloc (T #[U nm] 9)).heap[w.heap.size]?/\G.heap[rb]?=(W8.alloc (T #[U nm] 9)).heap[rb]?):=fun G hg=>by
    have fd:∀ (i:Nat) (cs:Array QB) (t:QF) (fz:Nat × Nat),(W8.alloc (T #[U nm] 9)).heap[i]?=N (Obj.cells cs t fz)->t≠9->G.heap[i]?=(W8.alloc (T #[U nm] 9)).heap[i]?:=fun i cs t fz hi ht=>hg.block i (ai hi) fun e=>by obtain⟨_,_,Fv,hc⟩:=af RO i e.symm;exact ht (ah hi hc)
    exact⟨fd _ _ _ _ S9.box (by decide),fd _ _ _ _ ((A.block _ (ai o)).trans o) (by decide),fd _ _ _ _ ((A.block _ (ai ro)).trans ro) (by decide)⟩
   have Gl:Hid ((W8.alloc (T #[U nm] 9)).heap[w.heap.size]?=N (T #[Q I 0,U ⟨#[]⟩,Z Y 0 0] 41 (0,0))):=(A.block _ (ai o)).trans o;have H9:Hid ((W8.alloc (T #[U nm] 9)).heap[rb]?=N (T #[Q I g,U f,Z Y 0 0] 41 (0,0))):=(A.block _ (ai ro)).trans ro;have QJ:¬ hb=w.heap.size:=fun e=>by have h:=S8.box;unfold ShBox at h;rw[e] at h;exact absurd (ah h o) (by decide)
   have Fj:¬ w.heap.size=hb:=fun e=>QJ e.symm;have Hx:¬ hb=rb:=fun e=>by have h:=S8.box;unfold ShBox at h;rw[e] at h;exact absurd (ah h ro) (by decide)
   have hbr':¬ rb=hb:=fun e=>Hx e.symm
   go_wp2_with (first
    | (at_builtin;refine bu _ rfl (.tmp 235) (.tmp 237) 39 rfl w0.heap.size 9 i1 (U ⟨#[]⟩) 1 16 Tryz.underlying39 Gf Gw Gg GE rfl (by decide) (Z ao q co) q (bq (l.map (·.name))) (by simp[Act.eval]) RO.out (J W8.heap.size 0 Y) 1 1 [U nm] (by simp[Act.eval]) rfl (li W8 _ _) (by simp[Value.oneCell']) (by unfold maxLen;omega) (by omega) GO ?_;intro v9 w9 QQ r n7;have O9:=ae QQ;have G9:=ae r;have Hc:=ae n7;have Fo:=ae (HG w9 r);obtain⟨g9,c9,cu9,rfl,He⟩:=QQ.2.resolve_left (fun h=>by omega);clear He QQ r n7;obtain⟨hbl9,-,-,-,f3,-,-,-,-,-,ff⟩:=(ShBox.blk S9.box Fo.1).facts;have ff3:=ff 3;obtain⟨rl,r0,r1,r2,rf⟩:=aZ (Fo.2.1.trans Gl);have GA:=rf 0;have Gu:=rf 1;have Gi:=rf 2;obtain⟨pl,p0,p1,p2,pf⟩:=aZ (Fo.2.2.trans H9);clear ff rf pf)
    | fail)
   have Gm:=ae (S9.ord (x:=⟨nm,3,g,f,tg,ls⟩) (w':=w9) (v:=Z (N (J g9 0 Y)) (q+1) c9) (by rw[<-HQ.out];exact G9) (by rw[<-HQ.out];exact O9) (by rw[<-HQ.out];exact Hc));refine bp (v:=QE #[Q I g,U f,Z Y 0 0]) (by simp[results,Tryz.results167,go_sem,r0,r1,r2]) rfl ?_;have Gr:=(qh w9 (J hb 3 Y) (Z (N (J g9 0 Y)) (q+1) c9) w.heap.size Fj).trans (Fo.2.1.trans Gl);rw[GK.out];refine⟨L1.set n ⟨m1.name,g,f,ls,Z (N (J gx 0 Y)) ln cx,QC⟩,Z (N (J b 0 Y)) QL Bk,Z (N (J g9 0 Y)) (q+1) c9,Z (N (J gp 0 Y)) j QP,rfl,?_,vw GJ la F0 F0 rfl rfl rfl rfl rfl GS HI,X8.set la rfl (fun k e=>by cases e;exact Hg),?_⟩
   ·have x0:=Gm.1
    rw[MG,MG] at x0;replace x0:=x0.setOff Gr ⟨by decide,by decide,by decide,by decide⟩ s 0 (Q I g);have y0:=aw Gr (j:=0) (Q I g);have x1:=x0.setOff y0 ⟨by decide,by decide,by decide,by decide⟩ s 1 (U f);exact x1.setOff (aw y0 (j:=1) (U f)) ⟨by decide,by decide,by decide,by decide⟩ s 2 (Z Y 0 0)
   ·have k0:=((KW.to K8).to (KS.of_below (X:=XN) A lr S8.lt)).to Gm.2
    exact((k0.fresh lr s 0 _).fresh lr s 1 _).fresh lr s 2 _
  ·obtain⟨a,k,sv,rfl,⟨s0,s1,Ib,GZ,GV,QH,aq⟩,H⟩:=th
   have A:=ae ((Qs QK).alloc lr (T #[Q I 6,U ⟨#[]⟩,Z a c.length k] 41));have K8:=ae ((K7.to H).to (KS.of_below (X:=XN) A lr (j5 s (K7.to H).below.size)));have bt:=ae (ShBox.blk QH (A.block _ (ai QH)));have n9:=ae (own_below aq A lr);have o:Hid ((QK.alloc (T #[Q I 6,U ⟨#[]⟩,Z a c.length k] 41)).heap[w.heap.size]?=N (T #[Q I 0,U ⟨#[]⟩,Z Y 0 0] 41 (0,0))):=by have QN:=(H.blk _ _ _ _ QO (by decide) (by decide) (by decide) fun h=>h).trans QO;exact(A.block _ (ai QN)).trans QN
   clear H QH aq;unfold gK jw;dsimp only;go_upto_region 30 with fail;clear A;generalize QK.alloc (T #[Q I 6,U ⟨#[]⟩,Z a c.length k] 41)=O at K8 bt n9 o ⊢;obtain⟨B,-,-,-,-,-,b5,b6,b7,b8,-⟩:=bt.facts;have QJ:¬ hb=w.heap.size:=fun e=>by have h:=bt.out;unfold ShBox at h;rw[e] at h;exact absurd (ah h o) (by decide)
   have Fj:¬ w.heap.size=hb:=fun e=>QJ e.symm;obtain⟨rl,r0,r1,r2,rf⟩:=aZ o;have GA:=rf 0;have Gu:=rf 1;have Gi:=rf 2;clear rf;simp only[jw] at b5 b6 b7;go_wp2_with fail;refine bp (v:=QE #[Q I 6,U ⟨#[]⟩,Z a c.length k]) (by simp[results,Tryz.results167,go_sem,r0,r1,r2]) rfl ?_;have FC:=(qh ((O.setCell (J w.heap.size 0 Y) (Q I 6)).setCell (J w.heap.size 1 Y) (U ⟨#[]⟩)) (J w.heap.size 2 Y) (Z a c.length k) hb QJ).trans ((qh (O.setCell (J w.heap.size 0 Y) (Q I 6)) (J w.heap.size 1 Y) (U ⟨#[]⟩) hb QJ).trans ((qh O (J w.heap.size 0 Y) (Q I 6) hb QJ).trans bt));have n6:((Z a c.length k:QB)).ownBlock≠N w.heap.size:=fun e=>by obtain⟨_,_,Fv,hc⟩:=af n9 w.heap.size e;exact absurd (ah o hc) (by decide)
   refine⟨a,k,rfl,⟨_,_,_,_,_,FC,?_⟩,?_⟩
   ·exact az (az (az n9 n6 _ _) n6 _ _) n6 _ _
   ·exact((K8.fresh lr s 0 _).fresh lr s 1 _).fresh lr s 2 _
  ·obtain⟨sv,rfl,⟨s0,s1,Ib,GZ,GV,QH,aq⟩,H⟩:=th
   have A:=ae ((Qs QK).alloc lr (T #[Q I 7,U d,Z Y 0 0] 41));have K8:=ae ((K7.to H).to (KS.of_below (X:=XN) A lr (j5 s (K7.to H).below.size)));have bt:=ae (ShBox.blk QH (A.block _ (ai QH)));have n9:=ae (own_below aq A lr);have o:Hid ((QK.alloc (T #[Q I 7,U d,Z Y 0 0] 41)).heap[w.heap.size]?=N (T #[Q I 0,U ⟨#[]⟩,Z Y 0 0] 41 (0,0))):=by have QN:=(H.blk _ _ _ _ QO (by decide) (by decide) (by decide) fun h=>h).trans QO;exact(A.block _ (ai QN)).trans QN
   clear H QH aq;unfold gK jx;dsimp only;go_upto_region 30 with fail;clear A;generalize QK.alloc (T #[Q I 7,U d,Z Y 0 0] 41)=O at K8 bt n9 o ⊢;obtain⟨B,-,-,-,-,-,b5,b6,b7,b8,-⟩:=bt.facts;have QJ:¬ hb=w.heap.size:=fun e=>by have h:=bt.out;unfold ShBox at h;rw[e] at h;exact absurd (ah h o) (by decide)
   have Fj:¬ w.heap.size=hb:=fun e=>QJ e.symm;obtain⟨rl,r0,r1,r2,rf⟩:=aZ o;have GA:=rf 0;have Gu:=rf 1;have Gi:=rf 2;clear rf;simp only[jx] at b5 b6 b7;go_wp2_with fail;refine bp (v:=QE #[Q I 7,U d,Z Y 0 0]) (by simp[results,Tryz.results167,go_sem,r0,r1,r2]) rfl ?_;have FC:=(qh ((O.setCell (J w.heap.size 0 Y) (Q I 7)).setCell (J w.heap.size 1 Y) (U d)) (J w.heap.size 2 Y) (Z Y 0 0) hb QJ).trans ((qh (O.setCell (J w.heap.size 0 Y) (Q I 7)) (J w.heap.size 1 Y) (U d) hb QJ).trans ((qh O (J w.heap.size 0 Y) (Q I 7) hb QJ).trans bt));have n6:((Z Y 0 0:QB)).ownBlock≠N w.heap.size:=fun e=>by obtain⟨_,_,Fv,hc⟩:=af n9 w.heap.size e;exact absurd (ah o hc) (by decide)
   refine⟨rfl,⟨_,_,_,_,_,FC,?_⟩,?_⟩
   ·exact az (az (az n9 n6 _ _) n6 _ _) n6 _ _
   ·exact((K8.fresh lr s 0 _).fresh lr s 1 _).fresh lr s 2 _
end
section
variable {w0:E}{S:Spc}{a0 a1:Option Addr}{c0 c1 hb:Nat}
theorem tB {L:List SM}{making:List ByteArray}{made:List Ent}{nm:ByteArray}(h:fE L making made)(b:∀ m∈L,m.name≠nm)(o:aK made nm=Y)(h1:atL making nm=Y){m':SM}{x:Ent}(d:m'.name=nm)(l:m'.done=QC)(q:x.name=nm)(g:m'.code=(cR x).code)(k:m'.text=(cR x).text)(i:m'.seen=x.looks)(p:m'.sv=Z Y 0 0)(n:Nat):fE ((L++[dl nm]).set L.length m') making (made++[x])/\LExt n L ((L++[dl nm]).set L.length m'):=by
 have f:(L++[dl nm])[L.length]?=N (dl nm):=by rw[AT lr,JX];rfl
 refine⟨vw (qu h b (m:=dl nm) rfl rfl) f rfl d q l g k i (dd o) h1,(LExt.add n L (m:=dl nm) rfl).set f d fun j e=>?_⟩;rw[p] at e;cases e
theorem Bu (C:kX w0 S a0 a1):∀ n,mu w0 S hb (Z a0 S.n0 c0) (Z a1 S.n1 c1) n:=by
 have s:∀ n,(∀ m,n=m+1->mu w0 S hb (Z a0 S.n0 c0) (Z a1 S.n1 c1) m)->mu w0 S hb (Z a0 S.n0 c0) (Z a1 S.n1 c1) n:=by
  intro n QQ making made L md or st w nm z h hrel G d q hn;have hmade:made.length<=50000:=by unfold eJ at d;omega
  have b:L.length<=100000:=by have:=hrel.len;omega
  rw[jc];unfold dm;cases h0:aK made nm with
  | some e =>obtain⟨k,m,f1,y,A,u,QO⟩:=DG hrel h0;refine(Br w nm h b k m f1 y A).mono ?_;rintro r w' ⟨rfl,f,o⟩;exact⟨L,md,or,st,by rw[u,QO],f,hrel,LExt.refl _ _,o⟩
  | none =>
   cases h1:atL making nm with
   | some i =>
    obtain⟨k,m,f1,y,A,u⟩:=DJ hrel h1;have QP:=q nm u;cases h2:atI (nm1 S.f1) S.n1 nm with
    | none=>rw[h2] at QP;cases QP
    | some tg=>exact uw C w nm h b (by omega) k m f1 y A tg i h2 h1
   | none =>
    obtain⟨B,p⟩:=zb hrel h0 h1;dsimp only;unfold d9;cases h2:atI (nm0 S.f0) S.n0 nm with
    | some i =>refine(Bs C w nm h b (by omega) B i h2 (uv C.ok h2)).mono ?_;rintro r w' ⟨g,l,rfl,f,o⟩;have j:=tB hrel p h0 h1 (m':=⟨nm,0,(S.f0 i).text,[],Z Y 0 0,QC⟩) (x:=⟨nm,1,0,(S.f0 i).text,0,[]⟩) rfl rfl rfl rfl rfl rfl rfl w.heap.size;exact⟨_,g,l,st,rfl,f,j.1,j.2,o⟩
    | none =>
     cases h3:atI (nm1 S.f1) S.n1 nm with
     | some t =>
      cases n with
      | zero=>exact ze C w nm h b (by omega) B h1 t h3
      | succ m=>exact Bt C m (QQ m rfl) w nm z h hrel G d q h0 h1 t h3
     | none =>refine(zc C w nm h b (by omega) B h2 h3).mono ?_;rintro r w' ⟨g,l,rfl,f,o⟩;have j:=tB hrel p h0 h1 (m':=⟨nm,4,nm,[],Z Y 0 0,QC⟩) (x:=⟨nm,2,0,⟨#[]⟩,0,[]⟩) rfl rfl rfl rfl rfl rfl rfl w.heap.size;exact⟨_,g,l,st,rfl,f,j.1,j.2,o⟩
 intro n;induction n with
 | zero=>exact s 0 fun m e=>by omega
 | succ n H=>exact s (n+1) fun m e=>by cases e;exact H
end
end Go.Proofs.YtkdimgejdocbbaaGreatDoor.Vp
