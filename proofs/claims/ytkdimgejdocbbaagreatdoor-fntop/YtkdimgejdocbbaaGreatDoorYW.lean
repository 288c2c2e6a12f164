import Derived.Test.YtkdimgejdocbbaaGreatDoorYL
import Derived.Test.YtkdimgejdocbbaaGreatDoorYS
open Option renaming some->Q
open Bool renaming false->D,true->QC
namespace Go.Proofs.YtkdimgejdocbbaaGreatDoor.Vp
open RowKit
structure GoodE (LS:List Source)(LT:List Target):Prop where
 few:LS.length+LT.length<=200
 src:∀ x∈LS,au x.name=QC/\eo x=D
 tgt:∀ x∈LT,au x.name=QC/\cy x=D
 s:LS.Pairwise fun a b=>ay a.name b.name=QC
 t:LT.Pairwise fun a b=>ay a.name b.name=QC
 apart:∀ x∈LS,∀ y∈LT,(y.name.toList == x.name.toList)=D
theorem kQ {g:Nat->ByteArray}:∀ {n:Nat},bM g n=QC->∀ i,i<n->au (g i)=QC
 | 0,_,i,hi=>absurd hi (CS i)
 | n+1,h,i,hi=>by
  have h2:(bM g n && au (g n))=QC:=h;rw[gM] at h2;by_cases e:i=n
  ·rw[e];exact h2.2
  ·exact kQ h2.1 i (by omega)
theorem kT {g:Nat->ByteArray}:∀ {n:Nat},(∀ i,i<n->au (g i)=QC)->bM g n=QC
 | 0,_=>rfl
 | n+1,h=>by show(bM g n && au (g n))=QC;rw[kT fun i hi=>h i (by omega),h n (lj n)];rfl
theorem kU {p:Nat->Bool}:∀ {n:Nat},(∀ i,i<n->p i=D)->aH p n=D
 | 0,_=>rfl
 | n+1,h=>by show(aH p n || p n)=D;rw[kU fun i hi=>h i (by omega),h n (lj n)];rfl
theorem vf {g:Nat->ByteArray}{n:Nat}{t:ByteArray}:aF g n t=D ↔ ∀ i,i<n->((g i).toList == t.toList)=D:=by
 unfold aF;rw[List.any_eq_false];constructor
 ·intro h i hi
  have:=h i (BO.2 hi);simpa using this
 ·intro h i hi
  have:=h i (BO.1 hi);simpa using this
theorem oM {g:Type}(f:Nat->g)(nm:g->ByteArray){n:Nat}(h:aE (fun i=>nm (f i)) n=QC):((List.range n).map f).Pairwise fun a b=>ay (nm a) (nm b)=QC:=by rw[List.pairwise_map];refine List.Pairwise.imp_of_mem ?_ List.pairwise_lt_range;intro a b _ hb d;exact fj h d (BO.1 hb)
theorem qX {n0:Nat}{f0:Nat->Source}{n1:Nat}{f1:Nat->Target}(h:aU n0 f0 n1 f1=0):GoodE ((List.range n0).map f0) ((List.range n1).map f1):=by
 unfold aU at h;by_cases a1:200<n0+n1
 ·rw[eT a1] at h;cases h
 rw[a8 a1] at h;by_cases k:bM (nm0 f0) n0=D
 ·rw[eT k] at h;cases h
 rw[a8 k] at h;by_cases d:bM (nm1 f1) n1=D
 ·rw[eT d] at h;cases h
 rw[a8 d] at h;by_cases m:aE (nm0 f0) n0=D
 ·rw[eT m] at h;cases h
 rw[a8 m] at h;by_cases f:aE (nm1 f1) n1=D
 ·rw[eT f] at h;cases h
 rw[a8 f] at h;by_cases g:aH (fun i=>aF (nm1 f1) n1 (nm0 f0 i)) n0=QC
 ·rw[eT g] at h;cases h
 rw[a8 g] at h;by_cases l:aH (fun i=>eo (f0 i)) n0=QC
 ·rw[eT l] at h;cases h
 rw[a8 l] at h;by_cases n:aH (fun i=>cy (f1 i)) n1=QC
 ·rw[eT n] at h;cases h
 rw[JF] at k d m f;rw[J8] at g l n;refine⟨by simp;omega,fun x b=>?_,fun x b=>?_,oM f0 (·.name) m,oM f1 (·.name) f,fun x b y p=>?_⟩
 ·obtain⟨i,hi,rfl⟩:=IC.1 b
  have hi:=BO.1 hi;exact⟨kQ k i hi,iz l hi⟩
 ·obtain⟨i,hi,rfl⟩:=IC.1 b
  have hi:=BO.1 hi;exact⟨kQ d i hi,iz n hi⟩
 ·obtain⟨i,hi,rfl⟩:=IC.1 b
  obtain⟨j,o,rfl⟩:=IC.1 p;exact vf.1 (iz g (BO.1 hi)) j (BO.1 o)
theorem kV {f:List Source}{d:List Target}(h:GoodE f d):aU f.length (aP f) d.length (bo d)=0:=by
 unfold aU;rw[a8 (by have:=h.few;omega),a8,a8,a8,a8,a8,a8,a8]
 ·rw[J8]
  refine kU fun i hi=>?_;rw[dt hi];exact(h.tgt _ (gz hi)).2
 ·rw[J8]
  refine kU fun i hi=>?_;rw[cJ hi];exact(h.src _ (gz hi)).2
 ·rw[J8]
  refine kU fun i hi=>vf.2 fun j b=>?_;show((bo d j).name.toList == (aP f i).name.toList)=D;rw[cJ hi,dt b];exact h.apart _ (gz hi) _ (gz b)
 ·rw[JF]
  refine gC fun i j g b=>?_;show ay (bo d i).name (bo d j).name=QC;rw[dt b,dt (by omega)];exact DN.1 h.t i j (by omega) b g
 ·rw[JF]
  refine gC fun i j g b=>?_;show ay (aP f i).name (aP f j).name=QC;rw[cJ b,cJ (by omega)];exact DN.1 h.s i j (by omega) b g
 ·rw[JF]
  refine kT fun i hi=>?_;show au (bo d i).name=QC;rw[dt hi];exact(h.tgt _ (gz hi)).1
 ·rw[JF]
  refine kT fun i hi=>?_;show au (aP f i).name=QC;rw[cJ hi];exact(h.src _ (gz hi)).1
theorem GoodE.sub {k g:List Source}{j i:List Target}(h:GoodE k j)(f:g.Sublist k)(d:i.Sublist j):GoodE g i :=
 ⟨by have:=f.length_le;have:=d.length_le;have:=h.few;omega,fun x b=>h.src x (f.subset b),fun x b=>h.tgt x (d.subset b),h.s.sublist f,h.t.sublist d,fun x b y l=>h.apart x (f.subset b) y (d.subset l)⟩
theorem ju {n0:Nat}{f0:Nat->Source}{n1:Nat}{f1:Nat->Target}(t:ByteArray)(h:aU n0 f0 n1 f1=0):GoodE (keepS f0 t n0) (keepT f1 t n1) :=
 (qX h).sub List.filter_sublist List.filter_sublist
theorem je {g:Nat->ByteArray}{t:ByteArray}:∀ {n:Nat},aE g n=QC->∃ i,i<=n/\(∀ m,m<i->ay (g m) t=QC)/\∀ m,i<=m->m<n->ay (g m) t=D
 | 0,_=>⟨0,j6 _,fun m b=>absurd b (CS m),fun m _ b=>absurd b (CS m)⟩
 | n+1,h=>by
  obtain⟨i,hi,h1,h2⟩:=je (t:=t) (fu (AS n) h);cases e:ay (g n) t with
  | true =>
   by_cases k:i=n
   ·subst k
    refine⟨i+1,j6 _,fun m b=>?_,fun m b j=>by omega⟩;by_cases d:m=i
    ·rw[d];exact e
    ·exact h1 m (by omega)
   ·have f:=h2 i lr (by omega)
    rw[du (fj h (show i<n by omega) (lj n)) e] at f;cases f
  | false =>
   refine⟨i,by omega,h1,fun m b j=>?_⟩;by_cases d:m=n
   ·rw[d];exact e
   ·exact h2 m b (by omega)
theorem s8 {g:Type}(nm:g->ByteArray){L:List g}{x:g}{i:Nat}(h:L.Pairwise fun a b=>ay (nm a) (nm b)=QC)(h1:∀ m (f:m<L.length),m<i->ay (nm L[m]) (nm x)=QC)(h2:∀ m (f:m<L.length),i<=m->ay (nm x) (nm L[m])=QC):(L.take i++x :: L.drop i).Pairwise fun a b=>ay (nm a) (nm b)=QC:=by
 have d:∀ a∈L.take i,ay (nm a) (nm x)=QC:=fun a d=>by obtain⟨m,f,rfl⟩:=J2 d;rw[IT] at f;rw[List.getElem_take];exact h1 m (by omega) (by omega)
 have hb:∀ a∈L.drop i,ay (nm x) (nm a)=QC:=fun a d=>by obtain⟨m,f,rfl⟩:=J2 d;rw[IH] at f;rw[LZ];exact h2 _ (by omega) (by omega)
 rw[IX,List.pairwise_cons];refine⟨h.sublist (List.take_sublist i L),⟨hb,h.sublist (List.drop_sublist i L)⟩,fun a k b j=>?_⟩;rcases BC.1 j with rfl | j
 ·exact d a k
 ·exact du (d a k) (hb b j)
theorem jU {b:Type}{L:List b}{x y:b}{i:Nat}(h:y∈L.take i++x :: L.drop i):y=x∨y∈L:=by
 rcases kP.1 h with h | h
 ·exact .inr (JT h)
 ·rcases BC.1 h with h | h
  ·exact .inl h
  ·exact .inr (List.mem_of_mem_drop h)
theorem vg {b:Type}{L:List b}{x:b}{i:Nat}(hi:i<=L.length):(L.take i++x :: L.drop i).length=L.length+1:=by rw[cM,o3,IT,IH];omega
theorem vh {b:Type}{L:List b}{x:b}{i:Nat}(hi:i<=L.length):(L.take i++x :: L.drop i)[i]?=Q x:=by
 have e:(L.take i).length=i:=by rw[IT];omega
 rw[AT (by omega),e,JW];rfl
theorem mS {a b:ByteArray}(h:ay b a=D)(d:(b.toList == a.toList)=D):ay a b=QC:=by
 rcases iZ h with h | ⟨_,h⟩
 ·exact h
 ·have e:a.toList=b.toList:=by simpa using h
  rw[e] at d;simp at d
theorem yO {b:List Source}{k:List Target}(h:GoodE b k){t tx:ByteArray}(hl:b.length+k.length<200)(r:au t=QC)(hx:¬ 2000<(tx.size:Int))(q:∀ y∈b,(y.name.toList == t.toList)=D)(h1:∀ y∈k,(y.name.toList == t.toList)=D):GoodE (gB b ⟨t,tx⟩ t) k/\∃ i:Nat,(gB b ⟨t,tx⟩ t)[i]?=Q (⟨t,tx⟩:Source):=by
 have l:aE (nm0 (aP b)) b.length=QC:=gC fun i j p n=>by show ay (aP b i).name (aP b j).name=QC;rw[cJ n,cJ (by omega)];exact DN.1 h.s i j (by omega) n p
 obtain⟨i,hi,a1,o⟩:=je (t:=t) l;rw[uL hi a1 o q];refine⟨⟨by rw[vg hi];omega,fun y d=>?_,h.tgt,?_,h.t,fun y d z hz=>?_⟩,i,vh hi⟩
 ·rcases jU d with rfl | d
  ·exact⟨r,by simp[eo];omega⟩
  ·exact h.src y d
 ·refine s8 (fun y:Source=>y.name) h.s (fun m g f=>?_) (fun m g f=>?_)
  ·have:=a1 m f
   rw[show nm0 (aP b) m=(aP b m).name from rfl,cJ g] at this;exact this
  ·have:=o m f g
   rw[show nm0 (aP b) m=(aP b m).name from rfl,cJ g] at this;exact mS this (q _ (gz g))
 ·rcases jU d with rfl | d
  ·exact h1 z hz
  ·exact h.apart y d z hz
theorem yP {k:List Source}{b:List Target}(h:GoodE k b){x:Target}{t:ByteArray}(l:x.name=t)(hl:k.length+b.length<200)(u:au t=QC)(r:cy x=D)(A:∀ y∈k,(y.name.toList == t.toList)=D)(h1:∀ y∈b,(y.name.toList == t.toList)=D):GoodE k (ko b x t)/\∃ i:Nat,(ko b x t)[i]?=Q x:=by
 have n:aE (nm1 (bo b)) b.length=QC:=gC fun i j q o=>by show ay (bo b i).name (bo b j).name=QC;rw[dt o,dt (by omega)];exact DN.1 h.t i j (by omega) o q
 obtain⟨i,hi,a1,p⟩:=je (t:=t) n
 rw[ko,uM hi a1 p fun m d=>by
  show((bo b m).name.toList == t.toList)=D;rw[dt d]
  exact h1 _ (gz d)]
 refine⟨⟨by rw[vg hi];omega,h.src,fun y f=>?_,h.s,?_,fun y f z hz=>?_⟩,i,vh hi⟩
 ·rcases jU f with rfl | f
  ·exact⟨l ▸ u,r⟩
  ·exact h.tgt y f
 ·subst l
  refine s8 (fun y:Target=>y.name) h.t (fun m d g=>?_) (fun m d g=>?_)
  ·have:=a1 m g
   rw[show nm1 (bo b) m=(bo b m).name from rfl,dt d] at this;exact this
  ·have:=p m g d
   rw[show nm1 (bo b) m=(bo b m).name from rfl,dt d] at this;exact mS this (h1 _ (gz d))
 ·rcases jU hz with rfl | hz
  ·have:=A y f
   rw[l];rw[M9] at this ⊢;exact fun e=>this e.symm
  ·exact h.apart y f z hz
theorem nJ {f:Nat->Target}{n:Nat}{t:ByteArray}:∀ y∈keepT f t n,(y.name.toList == t.toList)=D:=by intro y b;simpa using(M2.1 b).2
theorem te {n0:Nat}{f0:Nat->Source}{n1:Nat}{f1:Nat->Target}{t tx:ByteArray}(h:iq n0 f0 n1 f1 t tx=0):GoodE (fc n0 f0 n1 f1 t tx) (fk n0 f0 n1 f1 t tx)/\(bj ⟨(fc n0 f0 n1 f1 t tx).length,aP (fc n0 f0 n1 f1 t tx),(fk n0 f0 n1 f1 t tx).length,bo (fk n0 f0 n1 f1 t tx)⟩ t).2=⟨0,tx,[]⟩:=by
 have b:=h;unfold iq at b;by_cases a1:aU n0 f0 n1 f1≠0
 ·rw[eT a1] at b;cases b
 rw[a8 a1] at b;by_cases f:au t=D∨2000<(tx.size:Int)
 ·rw[eT f] at b;cases b
 rw[a8 f] at b;by_cases p:200<=(keepS f0 t n0).length+(keepT f1 t n1).length
 ·rw[eT p] at b;cases b
 have u:aU n0 f0 n1 f1=0:=by omega
 have n:au t=QC:=by rw[<-JF];exact fun e=>f (.inl e)
 obtain⟨d,i,m⟩:=yO (tx:=tx) (ju t u) (by omega) n (fun e=>f (.inr e)) lW nJ;have r:fc n0 f0 n1 f1 t tx=gB (keepS f0 t n0) ⟨t,tx⟩ t:=by rw[fc,eT h]
 have x:fk n0 f0 n1 f1 t tx=keepT f1 t n1:=by rw[fk,eT h]
 rw[r,x];refine⟨d,?_⟩;generalize gB (keepS f0 t n0) ⟨t,tx⟩ t=L at d m;obtain⟨hi,e⟩:=kS.1 m;have l:aP L i=⟨t,tx⟩:=by rw[cJ hi,e]
 have g:atI (nm0 (aP L)) L.length t=Q i:=xm hi (by show(aP L i).name.toList=_;rw[l]) fun j q=>by show(aP L j).name.toList≠t.toList;have k:=DN.1 d.s j i (by omega) hi q;rw[e] at k;have o:=(ib k).2;rw[cJ (by omega)];rw[M9] at o;exact fun e=>o e.symm
 have:=sV (S:=⟨L.length,aP L,(keepT f1 t n1).length,bo (keepT f1 t n1)⟩) (nm:=t) (i:=i) (kV d) n g;rw[this];show(⟨0,(aP L i).text,[]⟩:ResL)=_;rw[l]
theorem xo (L:List Source):(List.range L.length).map (aP L)=L:=by refine MR (by simp) fun i h1 h2=>?_;rw[List.getElem_map,List.getElem_range,cJ h2]
theorem xp (L:List Target):(List.range L.length).map (bo L)=L:=by refine MR (by simp) fun i h1 h2=>?_;rw[List.getElem_map,List.getElem_range,dt h2]
end Go.Proofs.YtkdimgejdocbbaaGreatDoor.Vp
