import Derived.Test.YtamacmnikdejeaaGreatDoorRM
import Derived.Test.YtamacmnikdejeaaGreatDoorRT
open Option renaming some->T
open Bool renaming false->QB,true->QD
namespace Go.Proofs.YtamacmnikdejeaaGreatDoor.Vp
open RowKit
structure GoodE (LS:List Source)(LT:List Target):Prop where
 few:LS.length+LT.length<=200
 src:∀ x∈LS,au x.name=QD/\ey x=QB
 tgt:∀ x∈LT,au x.name=QD/\b9 x=QB
 s:LS.Pairwise fun a b=>aw a.name b.name=QD
 t:LT.Pairwise fun a b=>aw a.name b.name=QD
 apart:∀ x∈LS,∀ y∈LT,(y.name.toList == x.name.toList)=QB
theorem lu {g:Nat->ByteArray}:∀ {n:Nat},bM g n=QD->∀ i,i<n->au (g i)=QD
 | 0,_,i,hi=>absurd hi (E4 i)
 | n+1,h,i,hi=>by
  have h2:(bM g n && au (g n))=QD:=h;rw[j4] at h2;by_cases e:i=n
  ·rw[e];exact h2.2
  ·exact lu h2.1 i (by omega)
theorem lv {g:Nat->ByteArray}:∀ {n:Nat},(∀ i,i<n->au (g i)=QD)->bM g n=QD
 | 0,_=>rfl
 | n+1,h=>by show(bM g n && au (g n))=QD;rw[lv fun i hi=>h i (by omega),h n (eL n)];rfl
theorem lw {p:Nat->Bool}:∀ {n:Nat},(∀ i,i<n->p i=QB)->aJ p n=QB
 | 0,_=>rfl
 | n+1,h=>by show(aJ p n || p n)=QB;rw[lw fun i hi=>h i (by omega),h n (eL n)];rfl
theorem vD {g:Nat->ByteArray}{n:Nat}{t:ByteArray}:aG g n t=QB ↔ ∀ i,i<n->((g i).toList == t.toList)=QB:=by
 unfold aG;rw[List.any_eq_false];constructor
 ·intro h i hi
  have:=h i (HU.2 hi);simpa using this
 ·intro h i hi
  have:=h i (HU.1 hi);simpa using this
theorem pw {g:Type}(f:Nat->g)(nm:g->ByteArray){n:Nat}(h:aI (fun i=>nm (f i)) n=QD):((List.range n).map f).Pairwise fun a b=>aw (nm a) (nm b)=QD:=by rw[List.pairwise_map];refine List.Pairwise.imp_of_mem ?_ List.pairwise_lt_range;intro a b _ hb j;exact fi h j (HU.1 hb)
theorem rQ {n0:Nat}{f0:Nat->Source}{n1:Nat}{f1:Nat->Target}(h:bh n0 f0 n1 f1=0):GoodE ((List.range n0).map f0) ((List.range n1).map f1):=by
 unfold bh at h;by_cases a1:200<n0+n1
 ·rw[gM a1] at h;cases h
 rw[cM a1] at h;by_cases n:bM (nm0 f0) n0=QB
 ·rw[gM n] at h;cases h
 rw[cM n] at h;by_cases l:bM (nm1 f1) n1=QB
 ·rw[gM l] at h;cases h
 rw[cM l] at h;by_cases f:aI (nm0 f0) n0=QB
 ·rw[gM f] at h;cases h
 rw[cM f] at h;by_cases o:aI (nm1 f1) n1=QB
 ·rw[gM o] at h;cases h
 rw[cM o] at h;by_cases g:aJ (fun i=>aG (nm1 f1) n1 (nm0 f0 i)) n0=QD
 ·rw[gM g] at h;cases h
 rw[cM g] at h;by_cases m:aJ (fun i=>ey (f0 i)) n0=QD
 ·rw[gM m] at h;cases h
 rw[cM m] at h;by_cases p:aJ (fun i=>b9 (f1 i)) n1=QD
 ·rw[gM p] at h;cases h
 rw[JR] at n l f o;rw[KU] at g m p;refine⟨by simp;omega,fun x b=>?_,fun x b=>?_,pw f0 (·.name) f,pw f1 (·.name) o,fun x b y r=>?_⟩
 ·obtain⟨i,hi,rfl⟩:=IW.1 b
  have hi:=HU.1 hi;exact⟨lu n i hi,iE m hi⟩
 ·obtain⟨i,hi,rfl⟩:=IW.1 b
  have hi:=HU.1 hi;exact⟨lu l i hi,iE p hi⟩
 ·obtain⟨i,hi,rfl⟩:=IW.1 b
  obtain⟨j,q,rfl⟩:=IW.1 r;exact vD.1 (iE g (HU.1 hi)) j (HU.1 q)
theorem xy {f:List Source}{g:List Target}(h:GoodE f g):bh f.length (ba f) g.length (be g)=0:=by
 unfold bh;rw[cM (by have:=h.few;omega),cM,cM,cM,cM,cM,cM,cM]
 ·rw[KU]
  refine lw fun i hi=>?_;rw[dX hi];exact(h.tgt _ (gj hi)).2
 ·rw[KU]
  refine lw fun i hi=>?_;rw[dt hi];exact(h.src _ (gj hi)).2
 ·rw[KU]
  refine lw fun i hi=>vD.2 fun j b=>?_;show((be g j).name.toList == (ba f i).name.toList)=QB;rw[dt hi,dX b];exact h.apart _ (gj hi) _ (gj b)
 ·rw[JR]
  refine kJ fun i j l b=>?_;show aw (be g i).name (be g j).name=QD;rw[dX b,dX (by omega)];exact ID.1 h.t i j (by omega) b l
 ·rw[JR]
  refine kJ fun i j l b=>?_;show aw (ba f i).name (ba f j).name=QD;rw[dt b,dt (by omega)];exact ID.1 h.s i j (by omega) b l
 ·rw[JR]
  refine lv fun i hi=>?_;show au (be g i).name=QD;rw[dX hi];exact(h.tgt _ (gj hi)).1
 ·rw[JR]
  refine lv fun i hi=>?_;show au (ba f i).name=QD;rw[dt hi];exact(h.src _ (gj hi)).1
theorem GoodE.sub {l j:List Source}{m i:List Target}(h:GoodE l m)(f:j.Sublist l)(g:i.Sublist m):GoodE j i :=
 ⟨by have:=f.length_le;have:=g.length_le;have:=h.few;omega,fun x b=>h.src x (f.subset b),fun x b=>h.tgt x (g.subset b),h.s.sublist f,h.t.sublist g,fun x b y n=>h.apart x (f.subset b) y (g.subset n)⟩
theorem mD {n0:Nat}{f0:Nat->Source}{n1:Nat}{f1:Nat->Target}(t:ByteArray)(h:bh n0 f0 n1 f1=0):GoodE (keepS f0 t n0) (keepT f1 t n1) :=
 (rQ h).sub List.filter_sublist List.filter_sublist
theorem oy {g:Nat->ByteArray}{t:ByteArray}:∀ {n:Nat},aI g n=QD->∃ i,i<=n/\(∀ m,m<i->aw (g m) t=QD)/\∀ m,i<=m->m<n->aw (g m) t=QB
 | 0,_=>⟨0,j6 _,fun m b=>absurd b (E4 m),fun m _ b=>absurd b (E4 m)⟩
 | n+1,h=>by
  obtain⟨i,hi,h1,h2⟩:=oy (t:=t) (fA (CV n) h);cases e:aw (g n) t with
  | true =>
   by_cases o:i=n
   ·subst o
    refine⟨i+1,j6 _,fun m b=>?_,fun m b l=>by omega⟩;by_cases f:m=i
    ·rw[f];exact e
    ·exact h1 m (by omega)
   ·have j:=h2 i ly (by omega)
    rw[dw (fi h (show i<n by omega) (eL n)) e] at j;cases j
  | false =>
   refine⟨i,by omega,h1,fun m b l=>?_⟩;by_cases f:m=n
   ·rw[f];exact e
   ·exact h2 m b (by omega)
theorem tK {j:Type}(nm:j->ByteArray){L:List j}{x:j}{i:Nat}(h:L.Pairwise fun a b=>aw (nm a) (nm b)=QD)(h1:∀ m (g:m<L.length),m<i->aw (nm L[m]) (nm x)=QD)(h2:∀ m (g:m<L.length),i<=m->aw (nm x) (nm L[m])=QD):(L.take i++x :: L.drop i).Pairwise fun a b=>aw (nm a) (nm b)=QD:=by
 have f:∀ a∈L.take i,aw (nm a) (nm x)=QD:=fun a f=>by obtain⟨m,g,rfl⟩:=KP f;rw[IU] at g;rw[List.getElem_take];exact h1 m (by omega) (by omega)
 have hb:∀ a∈L.drop i,aw (nm x) (nm a)=QD:=fun a f=>by obtain⟨m,g,rfl⟩:=KP f;rw[IM] at g;rw[MG];exact h2 _ (by omega) (by omega)
 rw[JG,NN];refine⟨h.sublist (List.take_sublist i L),⟨hb,h.sublist (List.drop_sublist i L)⟩,fun a n b l=>?_⟩;rcases p6.1 l with rfl | l
 ·exact f a n
 ·exact dw (f a n) (hb b l)
theorem mT {b:Type}{L:List b}{x y:b}{i:Nat}(h:y∈L.take i++x :: L.drop i):y=x∨y∈L:=by
 rcases nL.1 h with h | h
 ·exact .inr (JX h)
 ·rcases p6.1 h with h | h
  ·exact .inl h
  ·exact .inr (MY h)
theorem vE {b:Type}{L:List b}{x:b}{i:Nat}(hi:i<=L.length):(L.take i++x :: L.drop i).length=L.length+1:=by rw[eI,nD,IU,IM];omega
theorem vF {b:Type}{L:List b}{x:b}{i:Nat}(hi:i<=L.length):(L.take i++x :: L.drop i)[i]?=T x:=by
 have e:(L.take i).length=i:=by rw[IU];omega
 rw[BS (by omega),e,J2];rfl
theorem ny {a b:ByteArray}(h:aw b a=QB)(f:(b.toList == a.toList)=QB):aw a b=QD:=by
 rcases jb h with h | ⟨_,h⟩
 ·exact h
 ·have e:a.toList=b.toList:=by simpa using h
  rw[e] at f;simp at f
theorem yR {b:List Source}{n:List Target}(h:GoodE b n){t tx:ByteArray}(hl:b.length+n.length<200)(hn:au t=QD)(hx:¬ 2000<(tx.size:Int))(q:∀ y∈b,(y.name.toList == t.toList)=QB)(h1:∀ y∈n,(y.name.toList == t.toList)=QB):GoodE (iw b ⟨t,tx⟩ t) n/\∃ i:Nat,(iw b ⟨t,tx⟩ t)[i]?=T (⟨t,tx⟩:Source):=by
 have o:aI (nm0 (ba b)) b.length=QD:=kJ fun i j r p=>by show aw (ba b i).name (ba b j).name=QD;rw[dt p,dt (by omega)];exact ID.1 h.s i j (by omega) p r
 obtain⟨i,hi,a1,u⟩:=oy (t:=t) o;rw[Cw hi a1 u q];refine⟨⟨by rw[vE hi];omega,fun y f=>?_,h.tgt,?_,h.t,fun y f z hz=>?_⟩,i,vF hi⟩
 ·rcases mT f with rfl | f
  ·exact⟨hn,by simp[ey];omega⟩
  ·exact h.src y f
 ·refine tK (fun y:Source=>y.name) h.s (fun m g l=>?_) (fun m g l=>?_)
  ·have:=a1 m l
   rw[show nm0 (ba b) m=(ba b m).name from rfl,dt g] at this;exact this
  ·have:=u m l g
   rw[show nm0 (ba b) m=(ba b m).name from rfl,dt g] at this;exact ny this (q _ (gj g))
 ·rcases mT f with rfl | f
  ·exact h1 z hz
  ·exact h.apart y f z hz
theorem yS {n:List Source}{b:List Target}(h:GoodE n b){x:Target}{t:ByteArray}(o:x.name=t)(hl:n.length+b.length<200)(hn:au t=QD)(A:b9 x=QB)(B:∀ y∈n,(y.name.toList == t.toList)=QB)(h1:∀ y∈b,(y.name.toList == t.toList)=QB):GoodE n (od b x t)/\∃ i:Nat,(od b x t)[i]?=T x:=by
 have p:aI (nm1 (be b)) b.length=QD:=kJ fun i j r q=>by show aw (be b i).name (be b j).name=QD;rw[dX q,dX (by omega)];exact ID.1 h.t i j (by omega) q r
 obtain⟨i,hi,a1,u⟩:=oy (t:=t) p
 rw[od,Cx hi a1 u fun m f=>by
  show((be b m).name.toList == t.toList)=QB;rw[dX f]
  exact h1 _ (gj f)]
 refine⟨⟨by rw[vE hi];omega,h.src,fun y g=>?_,h.s,?_,fun y g z hz=>?_⟩,i,vF hi⟩
 ·rcases mT g with rfl | g
  ·exact⟨o ▸ hn,A⟩
  ·exact h.tgt y g
 ·subst o
  refine tK (fun y:Target=>y.name) h.t (fun m f l=>?_) (fun m f l=>?_)
  ·have:=a1 m l
   rw[show nm1 (be b) m=(be b m).name from rfl,dX f] at this;exact this
  ·have:=u m l f
   rw[show nm1 (be b) m=(be b m).name from rfl,dX f] at this;exact ny this (h1 _ (gj f))
 ·rcases mT hz with rfl | hz
  ·have:=B y g
   rw[o];rw[LN] at this ⊢;exact fun e=>this e.symm
  ·exact h.apart y g z hz
theorem tL {f:Nat->Target}{n:Nat}{t:ByteArray}:∀ y∈keepT f t n,(y.name.toList == t.toList)=QB:=by intro y b;simpa using(NE.1 b).2
theorem AY {n0:Nat}{f0:Nat->Source}{n1:Nat}{f1:Nat->Target}{t tx:ByteArray}(h:mc n0 f0 n1 f1 t tx=0):GoodE (gE n0 f0 n1 f1 t tx) (jc n0 f0 n1 f1 t tx)/\(aX ⟨(gE n0 f0 n1 f1 t tx).length,ba (gE n0 f0 n1 f1 t tx),(jc n0 f0 n1 f1 t tx).length,be (jc n0 f0 n1 f1 t tx)⟩ t).2=⟨0,tx,[]⟩:=by
 have b:=h;unfold mc at b;by_cases a1:bh n0 f0 n1 f1≠0
 ·rw[gM a1] at b;cases b
 rw[cM a1] at b;by_cases g:au t=QB∨2000<(tx.size:Int)
 ·rw[gM g] at b;cases b
 rw[cM g] at b;by_cases x:200<=(keepS f0 t n0).length+(keepT f1 t n1).length
 ·rw[gM x] at b;cases b
 have r:bh n0 f0 n1 f1=0:=by omega
 have hn:au t=QD:=by rw[<-JR];exact fun e=>g (.inl e)
 obtain⟨f,i,n⟩:=yR (tx:=tx) (mD t r) (by omega) hn (fun e=>g (.inr e)) qH tL;have y:gE n0 f0 n1 f1 t tx=iw (keepS f0 t n0) ⟨t,tx⟩ t:=by rw[gE,gM h]
 have u:jc n0 f0 n1 f1 t tx=keepT f1 t n1:=by rw[jc,gM h]
 rw[y,u];refine⟨f,?_⟩;generalize iw (keepS f0 t n0) ⟨t,tx⟩ t=L at f n;obtain⟨hi,e⟩:=j2.1 n;have p:ba L i=⟨t,tx⟩:=by rw[dt hi,e]
 have m:atI (nm0 (ba L)) L.length t=T i:=xv hi (by show(ba L i).name.toList=_;rw[p]) fun j q=>by show(ba L j).name.toList≠t.toList;have o:=ID.1 f.s j i (by omega) hi q;rw[e] at o;have l:=(gY o).2;rw[dt (by omega)];rw[LN] at l;exact fun e=>l e.symm
 have:=tE (S:=⟨L.length,ba L,(keepT f1 t n1).length,be (keepT f1 t n1)⟩) (nm:=t) (i:=i) (xy f) hn m;rw[this];show(⟨0,(ba L i).text,[]⟩:ji)=_;rw[p]
end Go.Proofs.YtamacmnikdejeaaGreatDoor.Vp
