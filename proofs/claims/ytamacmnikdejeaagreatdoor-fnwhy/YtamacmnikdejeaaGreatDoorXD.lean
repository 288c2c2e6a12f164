import Derived.Test.YtamacmnikdejeaaGreatDoorYS
import Derived.Test.YtamacmnikdejeaaGreatDoorXA
open Option renaming some->N
open Bool renaming false->QQ,true->QR
namespace Go.Proofs.YtamacmnikdejeaaGreatDoor.Vp
open RowKit
structure GoodE (LS:List Source)(LT:List Target):Prop where
 few:LS.length+LT.length<=200
 src:∀ x∈LS,av x.name=QR/\jT x=QQ
 tgt:∀ x∈LT,av x.name=QR/\dE x=QQ
 s:LS.Pairwise fun a b=>aL a.name b.name=QR
 t:LT.Pairwise fun a b=>aL a.name b.name=QR
 apart:∀ x∈LS,∀ y∈LT,(y.name.toList == x.name.toList)=QQ
theorem lW {g:Nat->ByteArray}:∀ {n:Nat},cE g n=QR->∀ i,i<n->av (g i)=QR
 | 0,_,i,hi=>absurd hi (JP i)
 | n+1,h,i,hi=>by
  have h2:(cE g n && av (g n))=QR:=h;rw[gB] at h2;by_cases e:i=n
  ·rw[e];exact h2.2
  ·exact lW h2.1 i (by omega)
theorem lX {g:Nat->ByteArray}:∀ {n:Nat},(∀ i,i<n->av (g i)=QR)->cE g n=QR
 | 0,_=>rfl
 | n+1,h=>by show(cE g n && av (g n))=QR;rw[lX fun i hi=>h i (by omega),h n (j2 n)];rfl
theorem lY {p:Nat->Bool}:∀ {n:Nat},(∀ i,i<n->p i=QQ)->bT p n=QQ
 | 0,_=>rfl
 | n+1,h=>by show(bT p n || p n)=QQ;rw[lY fun i hi=>h i (by omega),h n (j2 n)];rfl
theorem wJ {g:Nat->ByteArray}{n:Nat}{t:ByteArray}:bF g n t=QQ ↔ ∀ i,i<n->((g i).toList == t.toList)=QQ:=by
 unfold bF;rw[List.any_eq_false];constructor
 ·intro h i hi
  have:=h i (H7.2 hi);simpa using this
 ·intro h i hi
  have:=h i (H7.1 hi);simpa using this
theorem pU {g:Type}(f:Nat->g)(nm:g->ByteArray){n:Nat}(h:bQ (fun i=>nm (f i)) n=QR):((List.range n).map f).Pairwise fun a b=>aL (nm a) (nm b)=QR:=by rw[List.pairwise_map];refine List.Pairwise.imp_of_mem ?_ List.pairwise_lt_range;intro a b _ hb c;exact pk h c (H7.1 hb)
theorem sC {n0:Nat}{f0:Nat->Source}{n1:Nat}{f1:Nat->Target}(h:bw n0 f0 n1 f1=0):GoodE ((List.range n0).map f0) ((List.range n1).map f1):=by
 unfold bw at h;by_cases a1:200<n0+n1
 ·rw[gA a1] at h;cases h
 rw[eI a1] at h;by_cases n:cE (nm0 f0) n0=QQ
 ·rw[gA n] at h;cases h
 rw[eI n] at h;by_cases m:cE (nm1 f1) n1=QQ
 ·rw[gA m] at h;cases h
 rw[eI m] at h;by_cases c:bQ (nm0 f0) n0=QQ
 ·rw[gA c] at h;cases h
 rw[eI c] at h;by_cases f:bQ (nm1 f1) n1=QQ
 ·rw[gA f] at h;cases h
 rw[eI f] at h;by_cases l:bT (fun i=>bF (nm1 f1) n1 (nm0 f0 i)) n0=QR
 ·rw[gA l] at h;cases h
 rw[eI l] at h;by_cases g:bT (fun i=>jT (f0 i)) n0=QR
 ·rw[gA g] at h;cases h
 rw[eI g] at h;by_cases o:bT (fun i=>dE (f1 i)) n1=QR
 ·rw[gA o] at h;cases h
 rw[LD] at n m c f;rw[MZ] at l g o;refine⟨by simp;omega,fun x b=>?_,fun x b=>?_,pU f0 (·.name) c,pU f1 (·.name) f,fun x b y p=>?_⟩
 ·obtain⟨i,hi,rfl⟩:=JQ.1 b
  have hi:=H7.1 hi;exact⟨lW n i hi,jg g hi⟩
 ·obtain⟨i,hi,rfl⟩:=JQ.1 b
  have hi:=H7.1 hi;exact⟨lW m i hi,jg o hi⟩
 ·obtain⟨i,hi,rfl⟩:=JQ.1 b
  obtain⟨j,q,rfl⟩:=JQ.1 p;exact wJ.1 (jg l (H7.1 hi)) j (H7.1 q)
theorem yw {c:List Source}{f:List Target}(h:GoodE c f):bw c.length (aR c) f.length (aT f)=0:=by
 unfold bw;rw[eI (by have:=h.few;omega),eI,eI,eI,eI,eI,eI,eI]
 ·rw[MZ]
  refine lY fun i hi=>?_;rw[dw hi];exact(h.tgt _ (gj hi)).2
 ·rw[MZ]
  refine lY fun i hi=>?_;rw[cX hi];exact(h.src _ (gj hi)).2
 ·rw[MZ]
  refine lY fun i hi=>wJ.2 fun j b=>?_;show((aT f j).name.toList == (aR c i).name.toList)=QQ;rw[cX hi,dw b];exact h.apart _ (gj hi) _ (gj b)
 ·rw[LD]
  refine iu fun i j g b=>?_;show aL (aT f i).name (aT f j).name=QR;rw[dw b,dw (by omega)];exact DC.1 h.t i j (by omega) b g
 ·rw[LD]
  refine iu fun i j g b=>?_;show aL (aR c i).name (aR c j).name=QR;rw[cX b,cX (by omega)];exact DC.1 h.s i j (by omega) b g
 ·rw[LD]
  refine lX fun i hi=>?_;show av (aT f i).name=QR;rw[dw hi];exact(h.tgt _ (gj hi)).1
 ·rw[LD]
  refine lX fun i hi=>?_;show av (aR c i).name=QR;rw[cX hi];exact(h.src _ (gj hi)).1
theorem GoodE.sub {j i:List Source}{l g:List Target}(h:GoodE j l)(c:i.Sublist j)(f:g.Sublist l):GoodE i g :=
 ⟨by have:=c.length_le;have:=f.length_le;have:=h.few;omega,fun x b=>h.src x (c.subset b),fun x b=>h.tgt x (f.subset b),h.s.sublist c,h.t.sublist f,fun x b y m=>h.apart x (c.subset b) y (f.subset m)⟩
theorem iT {n0:Nat}{f0:Nat->Source}{n1:Nat}{f1:Nat->Target}(t:ByteArray)(h:bw n0 f0 n1 f1=0):GoodE (keepS f0 t n0) (keepT f1 t n1) :=
 (sC h).sub List.filter_sublist List.filter_sublist
theorem jM {g:Nat->ByteArray}{t:ByteArray}:∀ {n:Nat},bQ g n=QR->∃ i,i<=n/\(∀ m,m<i->aL (g m) t=QR)/\∀ m,i<=m->m<n->aL (g m) t=QQ
 | 0,_=>⟨0,j5 _,fun m b=>absurd b (JP m),fun m _ b=>absurd b (JP m)⟩
 | n+1,h=>by
  obtain⟨i,hi,h1,h2⟩:=jM (t:=t) (gL (vF n) h);cases e:aL (g n) t with
  | true =>
   by_cases f:i=n
   ·subst f
    refine⟨i+1,j5 _,fun m b=>?_,fun m b j=>by omega⟩;by_cases c:m=i
    ·rw[c];exact e
    ·exact h1 m (by omega)
   ·have l:=h2 i ly (by omega)
    rw[kj (pk h (show i<n by omega) (j2 n)) e] at l;cases l
  | false =>
   refine⟨i,by omega,h1,fun m b j=>?_⟩;by_cases c:m=n
   ·rw[c];exact e
   ·exact h2 m b (by omega)
theorem ul {g:Type}(nm:g->ByteArray){L:List g}{x:g}{i:Nat}(h:L.Pairwise fun a b=>aL (nm a) (nm b)=QR)(h1:∀ m (f:m<L.length),m<i->aL (nm L[m]) (nm x)=QR)(h2:∀ m (f:m<L.length),i<=m->aL (nm x) (nm L[m])=QR):(L.take i++x :: L.drop i).Pairwise fun a b=>aL (nm a) (nm b)=QR:=by
 have c:∀ a∈L.take i,aL (nm a) (nm x)=QR:=fun a c=>by obtain⟨m,f,rfl⟩:=MU c;rw[JY] at f;rw[List.getElem_take];exact h1 m (by omega) (by omega)
 have hb:∀ a∈L.drop i,aL (nm x) (nm a)=QR:=fun a c=>by obtain⟨m,f,rfl⟩:=MU c;rw[JZ] at f;rw[PD];exact h2 _ (by omega) (by omega)
 rw[KT,KQ];refine⟨h.sublist (List.take_sublist i L),⟨hb,h.sublist (List.drop_sublist i L)⟩,fun a l b j=>?_⟩;rcases nD.1 j with rfl | j
 ·exact c a l
 ·exact kj (c a l) (hb b j)
theorem kY {b:Type}{L:List b}{x y:b}{i:Nat}(h:y∈L.take i++x :: L.drop i):y=x∨y∈L:=by
 rcases hU.1 h with h | h
 ·exact .inr (LU h)
 ·rcases nD.1 h with h | h
  ·exact .inl h
  ·exact .inr (PU h)
theorem wK {b:Type}{L:List b}{x:b}{i:Nat}(hi:i<=L.length):(L.take i++x :: L.drop i).length=L.length+1:=by rw[a8,z8,JY,JZ];omega
theorem wL {b:Type}{L:List b}{x:b}{i:Nat}(hi:i<=L.length):(L.take i++x :: L.drop i)[i]?=N x:=by
 have e:(L.take i).length=i:=by rw[JY];omega
 rw[p8 (by omega),e,NE];rfl
theorem oe {a b:ByteArray}(h:aL b a=QQ)(c:(b.toList == a.toList)=QQ):aL a b=QR:=by
 rcases jD h with h | ⟨_,h⟩
 ·exact h
 ·have e:a.toList=b.toList:=by simpa using h
  rw[e] at c;simp at c
theorem Aj {b:List Source}{l:List Target}(h:GoodE b l){t tx:ByteArray}(hl:b.length+l.length<200)(hn:av t=QR)(hx:¬ 2000<(tx.size:Int))(q:∀ y∈b,(y.name.toList == t.toList)=QQ)(h1:∀ y∈l,(y.name.toList == t.toList)=QQ):GoodE (iq b ⟨t,tx⟩ t) l/\∃ i:Nat,(iq b ⟨t,tx⟩ t)[i]?=N (⟨t,tx⟩:Source):=by
 have n:bQ (nm0 (aR b)) b.length=QR:=iu fun i j p r=>by show aL (aR b i).name (aR b j).name=QR;rw[cX r,cX (by omega)];exact DC.1 h.s i j (by omega) r p
 obtain⟨i,hi,a1,o⟩:=jM (t:=t) n;rw[wj hi a1 o q];refine⟨⟨by rw[wK hi];omega,fun y c=>?_,h.tgt,?_,h.t,fun y c z hz=>?_⟩,i,wL hi⟩
 ·rcases kY c with rfl | c
  ·exact⟨hn,by simp[jT];omega⟩
  ·exact h.src y c
 ·refine ul (fun y:Source=>y.name) h.s (fun m f g=>?_) (fun m f g=>?_)
  ·have:=a1 m g
   rw[show nm0 (aR b) m=(aR b m).name from rfl,cX f] at this;exact this
  ·have:=o m g f
   rw[show nm0 (aR b) m=(aR b m).name from rfl,cX f] at this;exact oe this (q _ (gj f))
 ·rcases kY c with rfl | c
  ·exact h1 z hz
  ·exact h.apart y c z hz
theorem Ak {l:List Source}{b:List Target}(h:GoodE l b){x:Target}{t:ByteArray}(n:x.name=t)(hl:l.length+b.length<200)(hn:av t=QR)(u:dE x=QQ)(A:∀ y∈l,(y.name.toList == t.toList)=QQ)(h1:∀ y∈b,(y.name.toList == t.toList)=QQ):GoodE l (lJ b x t)/\∃ i:Nat,(lJ b x t)[i]?=N x:=by
 have o:bQ (nm1 (aT b)) b.length=QR:=iu fun i j q r=>by show aL (aT b i).name (aT b j).name=QR;rw[dw r,dw (by omega)];exact DC.1 h.t i j (by omega) r q
 obtain⟨i,hi,a1,p⟩:=jM (t:=t) o
 rw[lJ,wk hi a1 p fun m c=>by
  show((aT b m).name.toList == t.toList)=QQ;rw[dw c]
  exact h1 _ (gj c)]
 refine⟨⟨by rw[wK hi];omega,h.src,fun y f=>?_,h.s,?_,fun y f z hz=>?_⟩,i,wL hi⟩
 ·rcases kY f with rfl | f
  ·exact⟨n ▸ hn,u⟩
  ·exact h.tgt y f
 ·subst n
  refine ul (fun y:Target=>y.name) h.t (fun m c g=>?_) (fun m c g=>?_)
  ·have:=a1 m g
   rw[show nm1 (aT b) m=(aT b m).name from rfl,dw c] at this;exact this
  ·have:=p m g c
   rw[show nm1 (aT b) m=(aT b m).name from rfl,dw c] at this;exact oe this (h1 _ (gj c))
 ·rcases kY hz with rfl | hz
  ·have:=A y f
   rw[n];rw[QB] at this ⊢;exact fun e=>this e.symm
  ·exact h.apart y f z hz
theorem oS {f:Nat->Target}{n:Nat}{t:ByteArray}:∀ y∈keepT f t n,(y.name.toList == t.toList)=QQ:=by intro y b;simpa using(MN.1 b).2
theorem Dj {n0:Nat}{f0:Nat->Source}{n1:Nat}{f1:Nat->Target}{t tx:ByteArray}(h:jE n0 f0 n1 f1 t tx=0):GoodE (fU n0 f0 n1 f1 t tx) (gS n0 f0 n1 f1 t tx)/\(aG ⟨(fU n0 f0 n1 f1 t tx).length,aR (fU n0 f0 n1 f1 t tx),(gS n0 f0 n1 f1 t tx).length,aT (gS n0 f0 n1 f1 t tx)⟩ t).2=⟨0,tx,[]⟩:=by
 have b:=h;unfold jE at b;by_cases a1:bw n0 f0 n1 f1≠0
 ·rw[gA a1] at b;cases b
 rw[eI a1] at b;by_cases c:av t=QQ∨2000<(tx.size:Int)
 ·rw[gA c] at b;cases b
 rw[eI c] at b;by_cases p:200<=(keepS f0 t n0).length+(keepT f1 t n1).length
 ·rw[gA p] at b;cases b
 have q:bw n0 f0 n1 f1=0:=by omega
 have hn:av t=QR:=by rw[<-LD];exact fun e=>c (.inl e)
 obtain⟨f,i,l⟩:=Aj (tx:=tx) (iT t q) (by omega) hn (fun e=>c (.inr e)) mW oS;have r:fU n0 f0 n1 f1 t tx=iq (keepS f0 t n0) ⟨t,tx⟩ t:=by rw[fU,gA h]
 have u:gS n0 f0 n1 f1 t tx=keepT f1 t n1:=by rw[gS,gA h]
 rw[r,u];refine⟨f,?_⟩;generalize iq (keepS f0 t n0) ⟨t,tx⟩ t=L at f l;obtain⟨hi,e⟩:=gM.1 l;have o:aR L i=⟨t,tx⟩:=by rw[cX hi,e]
 have g:atI (nm0 (aR L)) L.length t=N i:=yu hi (by show(aR L i).name.toList=_;rw[o]) fun j x=>by show(aR L j).name.toList≠t.toList;have n:=DC.1 f.s j i (by omega) hi x;rw[e] at n;have m:=(iN n).2;rw[cX (by omega)];rw[QB] at m;exact fun e=>m e.symm
 have:=uf (S:=⟨L.length,aR L,(keepT f1 t n1).length,aT (keepT f1 t n1)⟩) (nm:=t) (i:=i) (yw f) hn g;rw[this];show(⟨0,(aR L i).text,[]⟩:jH)=_;rw[o]
theorem yx (L:List Source):(List.range L.length).map (aR L)=L:=by refine PL (by simp) fun i h1 h2=>?_;rw[M2,List.getElem_range,cX h2]
theorem yy (L:List Target):(List.range L.length).map (aT L)=L:=by refine PL (by simp) fun i h1 h2=>?_;rw[M2,List.getElem_range,dw h2]
end Go.Proofs.YtamacmnikdejeaaGreatDoor.Vp
