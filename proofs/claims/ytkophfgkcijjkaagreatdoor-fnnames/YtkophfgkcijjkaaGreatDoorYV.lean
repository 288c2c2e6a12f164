import Derived.Test.YtkophfgkcijjkaaGreatDoorYL
import Derived.Test.YtkophfgkcijjkaaGreatDoorYR
namespace Go.Proofs.YtkophfgkcijjkaaGreatDoor.Vp
open RowKit
structure GoodE (LS:List Source)(LT:List Target):Prop where
 few:LS.length+LT.length<=200
 src:∀ x∈LS,aw x.name=true/\ii x=false
 tgt:∀ x∈LT,aw x.name=true/\dk x=false
 s:LS.Pairwise fun a b=>aH a.name b.name=true
 t:LT.Pairwise fun a b=>aH a.name b.name=true
 apart:∀ x∈LS,∀ y∈LT,(y.name.toList == x.name.toList)=false
theorem jr {g:Nat->ByteArray}:∀ {n:Nat},bY g n=true->∀ i,i<n->aw (g i)=true
 | 0,_,i,hi=>absurd hi (Nat.not_lt_zero i)
 | n+1,h,i,hi=>by
  have b:(bY g n && aw (g n))=true:=h;rw[Bool.and_eq_true] at b;by_cases e:i=n
  ·rw[e];exact b.2
  ·exact jr b.1 i (by omega)
theorem js {g:Nat->ByteArray}:∀ {n:Nat},(∀ i,i<n->aw (g i)=true)->bY g n=true
 | 0,_=>rfl
 | n+1,h=>by show(bY g n && aw (g n))=true;rw[js fun i hi=>h i (by omega),h n (Nat.lt_succ_self n)];rfl
theorem jt {p:Nat->Bool}:∀ {n:Nat},(∀ i,i<n->p i=false)->cD p n=false
 | 0,_=>rfl
 | n+1,h=>by show(cD p n || p n)=false;rw[jt fun i hi=>h i (by omega),h n (Nat.lt_succ_self n)];rfl
theorem rZ {g:Nat->ByteArray}{n:Nat}{t:ByteArray}:bS g n t=false ↔ ∀ i,i<n->((g i).toList == t.toList)=false:=by
 unfold bS;rw[List.any_eq_false];constructor
 ·intro h i hi
  have:=h i (List.mem_range.2 hi);simpa using this
 ·intro h i hi
  have:=h i (List.mem_range.1 hi);simpa using this
theorem mu {c:Type}(f:Nat->c)(nm:c->ByteArray){n:Nat}(h:bP (fun i=>nm (f i)) n=true):((List.range n).map f).Pairwise fun a b=>aH (nm a) (nm b)=true:=by rw[List.pairwise_map];refine List.Pairwise.imp_of_mem ?_ List.pairwise_lt_range;intro a b _ hb d;exact tY h d (List.mem_range.1 hb)
theorem oE {n0:Nat}{f0:Nat->Source}{n1:Nat}{f1:Nat->Target}(h:bi n0 f0 n1 f1=0):GoodE ((List.range n0).map f0) ((List.range n1).map f1):=by
 unfold bi at h;by_cases a1:200<n0+n1
 ·rw[if_pos a1] at h;cases h
 rw[if_neg a1] at h;by_cases c:bY (nm0 f0) n0=false
 ·rw[if_pos c] at h;cases h
 rw[if_neg c] at h;by_cases k:bY (nm1 f1) n1=false
 ·rw[if_pos k] at h;cases h
 rw[if_neg k] at h;by_cases g:bP (nm0 f0) n0=false
 ·rw[if_pos g] at h;cases h
 rw[if_neg g] at h;by_cases f:bP (nm1 f1) n1=false
 ·rw[if_pos f] at h;cases h
 rw[if_neg f] at h;by_cases d:cD (fun i=>bS (nm1 f1) n1 (nm0 f0 i)) n0=true
 ·rw[if_pos d] at h;cases h
 rw[if_neg d] at h;by_cases l:cD (fun i=>ii (f0 i)) n0=true
 ·rw[if_pos l] at h;cases h
 rw[if_neg l] at h;by_cases m:cD (fun i=>dk (f1 i)) n1=true
 ·rw[if_pos m] at h;cases h
 rw[Bool.not_eq_false] at c k g f;rw[Bool.not_eq_true] at d l m;refine⟨by simp;omega,fun x b=>?_,fun x b=>?_,mu f0 (·.name) g,mu f1 (·.name) f,fun x b y n=>?_⟩
 ·obtain⟨i,hi,rfl⟩:=List.mem_map.1 b
  have hi:=List.mem_range.1 hi;exact⟨jr c i hi,gD l hi⟩
 ·obtain⟨i,hi,rfl⟩:=List.mem_map.1 b
  have hi:=List.mem_range.1 hi;exact⟨jr k i hi,gD m hi⟩
 ·obtain⟨i,hi,rfl⟩:=List.mem_map.1 b
  obtain⟨j,o,rfl⟩:=List.mem_map.1 n;exact rZ.1 (gD d (List.mem_range.1 hi)) j (List.mem_range.1 o)
theorem tD {c:List Source}{d:List Target}(h:GoodE c d):bi c.length (aO c) d.length (ba d)=0:=by
 unfold bi;rw[if_neg (by have:=h.few;omega),if_neg,if_neg,if_neg,if_neg,if_neg,if_neg,if_neg]
 ·rw[Bool.not_eq_true]
  refine jt fun i hi=>?_;rw[dX hi];exact(h.tgt _ (gz hi)).2
 ·rw[Bool.not_eq_true]
  refine jt fun i hi=>?_;rw[dn hi];exact(h.src _ (gz hi)).2
 ·rw[Bool.not_eq_true]
  refine jt fun i hi=>rZ.2 fun j b=>?_;show((ba d j).name.toList == (aO c i).name.toList)=false;rw[dn hi,dX b];exact h.apart _ (gz hi) _ (gz b)
 ·rw[Bool.not_eq_false]
  refine jf fun i j f b=>?_;show aH (ba d i).name (ba d j).name=true;rw[dX b,dX (by omega)];exact List.pairwise_iff_getElem.1 h.t i j (by omega) b f
 ·rw[Bool.not_eq_false]
  refine jf fun i j f b=>?_;show aH (aO c i).name (aO c j).name=true;rw[dn b,dn (by omega)];exact List.pairwise_iff_getElem.1 h.s i j (by omega) b f
 ·rw[Bool.not_eq_false]
  refine js fun i hi=>?_;show aw (ba d i).name=true;rw[dX hi];exact(h.tgt _ (gz hi)).1
 ·rw[Bool.not_eq_false]
  refine js fun i hi=>?_;show aw (aO c i).name=true;rw[dn hi];exact(h.src _ (gz hi)).1
theorem GoodE.sub {i f:List Source}{j g:List Target}(h:GoodE i j)(c:f.Sublist i)(d:g.Sublist j):GoodE f g :=
 ⟨by have:=c.length_le;have:=d.length_le;have:=h.few;omega,fun x b=>h.src x (c.subset b),fun x b=>h.tgt x (d.subset b),h.s.sublist c,h.t.sublist d,fun x b y k=>h.apart x (c.subset b) y (d.subset k)⟩
theorem j2 {n0:Nat}{f0:Nat->Source}{n1:Nat}{f1:Nat->Target}(t:ByteArray)(h:bi n0 f0 n1 f1=0):GoodE (bw f0 t n0) (ce f1 t n1) :=
 (oE h).sub List.filter_sublist List.filter_sublist
theorem lC {g:Nat->ByteArray}{t:ByteArray}:∀ {n:Nat},bP g n=true->∃ i,i<=n/\(∀ m,m<i->aH (g m) t=true)/\∀ m,i<=m->m<n->aH (g m) t=false
 | 0,_=>⟨0,Nat.le_refl _,fun m b=>absurd b (Nat.not_lt_zero m),fun m _ b=>absurd b (Nat.not_lt_zero m)⟩
 | n+1,h=>by
  obtain⟨i,hi,k,l⟩:=lC (t:=t) (fu (Nat.le_succ n) h);cases e:aH (g n) t with
  | true =>
   by_cases f:i=n
   ·subst f
    refine⟨i+1,Nat.le_refl _,fun m b=>?_,fun m b j=>by omega⟩;by_cases c:m=i
    ·rw[c];exact e
    ·exact k m (by omega)
   ·have d:=l i ly (by omega)
    rw[iC (tY h (show i<n by omega) (Nat.lt_succ_self n)) e] at d;cases d
  | false =>
   refine⟨i,by omega,k,fun m b j=>?_⟩;by_cases c:m=n
   ·rw[c];exact e
   ·exact l m b (by omega)
theorem pX {f:Type}(nm:f->ByteArray){L:List f}{x:f}{i:Nat}(h:L.Pairwise fun a b=>aH (nm a) (nm b)=true)(l:∀ m (d:m<L.length),m<i->aH (nm L[m]) (nm x)=true)(k:∀ m (d:m<L.length),i<=m->aH (nm x) (nm L[m])=true):(L.take i++x :: L.drop i).Pairwise fun a b=>aH (nm a) (nm b)=true:=by
 have c:∀ a∈L.take i,aH (nm a) (nm x)=true:=fun a c=>by obtain⟨m,d,rfl⟩:=List.getElem_of_mem c;rw[List.length_take] at d;rw[List.getElem_take];exact l m (by omega) (by omega)
 have hb:∀ a∈L.drop i,aH (nm x) (nm a)=true:=fun a c=>by obtain⟨m,d,rfl⟩:=List.getElem_of_mem c;rw[List.length_drop] at d;rw[List.getElem_drop];exact k _ (by omega) (by omega)
 rw[List.pairwise_append,List.pairwise_cons];refine⟨h.sublist (List.take_sublist i L),⟨hb,h.sublist (List.drop_sublist i L)⟩,fun a j b g=>?_⟩;rcases List.mem_cons.1 g with rfl | g
 ·exact c a j
 ·exact iC (c a j) (hb b g)
theorem kq {b:Type}{L:List b}{x y:b}{i:Nat}(h:y∈L.take i++x :: L.drop i):y=x∨y∈L:=by
 rcases List.mem_append.1 h with h | h
 ·exact .inr (List.mem_of_mem_take h)
 ·rcases List.mem_cons.1 h with h | h
  ·exact .inl h
  ·exact .inr (List.mem_of_mem_drop h)
theorem r8 {b:Type}{L:List b}{x:b}{i:Nat}(hi:i<=L.length):(L.take i++x :: L.drop i).length=L.length+1:=by rw[List.length_append,List.length_cons,List.length_take,List.length_drop];omega
theorem r9 {b:Type}{L:List b}{x:b}{i:Nat}(hi:i<=L.length):(L.take i++x :: L.drop i)[i]?=some x:=by
 have e:(L.take i).length=i:=by rw[List.length_take];omega
 rw[List.getElem?_append_right (by omega),e,Nat.sub_self];rfl
theorem kL {a b:ByteArray}(h:aH b a=false)(c:(b.toList == a.toList)=false):aH a b=true:=by
 rcases gS h with h | ⟨_,h⟩
 ·exact h
 ·have e:a.toList=b.toList:=by simpa using h
  rw[e] at c;simp at c
theorem uM {b:List Source}{g:List Target}(h:GoodE b g){t tx:ByteArray}(hl:b.length+g.length<200)(hn:aw t=true)(hx:¬ 2000<(tx.size:Int))(o:∀ y∈b,(y.name.toList == t.toList)=false)(q:∀ y∈g,(y.name.toList == t.toList)=false):GoodE (gu b ⟨t,tx⟩ t) g/\∃ i:Nat,(gu b ⟨t,tx⟩ t)[i]?=some (⟨t,tx⟩:Source):=by
 have k:bP (nm0 (aO b)) b.length=true:=jf fun i j n p=>by show aH (aO b i).name (aO b j).name=true;rw[dn p,dn (by omega)];exact List.pairwise_iff_getElem.1 h.s i j (by omega) p n
 obtain⟨i,hi,a1,l⟩:=lC (t:=t) k;rw[xR hi a1 l o];refine⟨⟨by rw[r8 hi];omega,fun y c=>?_,h.tgt,?_,h.t,fun y c z hz=>?_⟩,i,r9 hi⟩
 ·rcases kq c with rfl | c
  ·exact⟨hn,by simp[ii];omega⟩
  ·exact h.src y c
 ·refine pX (fun y:Source=>y.name) h.s (fun m d f=>?_) (fun m d f=>?_)
  ·have:=a1 m f
   rw[show nm0 (aO b) m=(aO b m).name from rfl,dn d] at this;exact this
  ·have:=l m f d
   rw[show nm0 (aO b) m=(aO b m).name from rfl,dn d] at this;exact kL this (o _ (gz d))
 ·rcases kq c with rfl | c
  ·exact q z hz
  ·exact h.apart y c z hz
theorem uN {g:List Source}{b:List Target}(h:GoodE g b){x:Target}{t:ByteArray}(l:x.name=t)(hl:g.length+b.length<200)(hn:aw t=true)(r:dk x=false)(u:∀ y∈g,(y.name.toList == t.toList)=false)(p:∀ y∈b,(y.name.toList == t.toList)=false):GoodE g (lw b x t)/\∃ i:Nat,(lw b x t)[i]?=some x:=by
 have k:bP (nm1 (ba b)) b.length=true:=jf fun i j o q=>by show aH (ba b i).name (ba b j).name=true;rw[dX q,dX (by omega)];exact List.pairwise_iff_getElem.1 h.t i j (by omega) q o
 obtain⟨i,hi,a1,n⟩:=lC (t:=t) k
 rw[lw,xS hi a1 n fun m c=>by
  show((ba b m).name.toList == t.toList)=false;rw[dX c]
  exact p _ (gz c)]
 refine⟨⟨by rw[r8 hi];omega,h.src,fun y d=>?_,h.s,?_,fun y d z hz=>?_⟩,i,r9 hi⟩
 ·rcases kq d with rfl | d
  ·exact⟨l ▸ hn,r⟩
  ·exact h.tgt y d
 ·subst l
  refine pX (fun y:Target=>y.name) h.t (fun m c f=>?_) (fun m c f=>?_)
  ·have:=a1 m f
   rw[show nm1 (ba b) m=(ba b m).name from rfl,dX c] at this;exact this
  ·have:=n m f c
   rw[show nm1 (ba b) m=(ba b m).name from rfl,dX c] at this;exact kL this (p _ (gz c))
 ·rcases kq hz with rfl | hz
  ·have:=u y d
   rw[l];rw[beq_eq_false_iff_ne] at this ⊢;exact fun e=>this e.symm
  ·exact h.apart y d z hz
theorem pY {f:Nat->Target}{n:Nat}{t:ByteArray}:∀ y∈ce f t n,(y.name.toList == t.toList)=false:=by intro y b;simpa using(List.mem_filter.1 b).2
theorem wV {n0:Nat}{f0:Nat->Source}{n1:Nat}{f1:Nat->Target}{t tx:ByteArray}(h:jS n0 f0 n1 f1 t tx=0):GoodE (fM n0 f0 n1 f1 t tx) (gT n0 f0 n1 f1 t tx)/\(bN ⟨(fM n0 f0 n1 f1 t tx).length,aO (fM n0 f0 n1 f1 t tx),(gT n0 f0 n1 f1 t tx).length,ba (gT n0 f0 n1 f1 t tx)⟩ t).2=⟨0,tx,[]⟩:=by
 have b:=h;unfold jS at b;by_cases a1:bi n0 f0 n1 f1≠0
 ·rw[if_pos a1] at b;cases b
 rw[if_neg a1] at b;by_cases c:aw t=false∨2000<(tx.size:Int)
 ·rw[if_pos c] at b;cases b
 rw[if_neg c] at b;by_cases p:200<=(bw f0 t n0).length+(ce f1 t n1).length
 ·rw[if_pos p] at b;cases b
 have q:bi n0 f0 n1 f1=0:=by omega
 have hn:aw t=true:=by rw[<-Bool.not_eq_false];exact fun e=>c (.inl e)
 obtain⟨d,i,g⟩:=uM (tx:=tx) (j2 t q) (by omega) hn (fun e=>c (.inr e)) nO pY;have n:fM n0 f0 n1 f1 t tx=gu (bw f0 t n0) ⟨t,tx⟩ t:=by rw[fM,if_pos h]
 have o:gT n0 f0 n1 f1 t tx=ce f1 t n1:=by rw[gT,if_pos h]
 rw[n,o];refine⟨d,?_⟩;generalize gu (bw f0 t n0) ⟨t,tx⟩ t=L at d g;obtain⟨hi,e⟩:=List.getElem?_eq_some_iff.1 g;have l:aO L i=⟨t,tx⟩:=by rw[dn hi,e]
 have k:atI (nm0 (aO L)) L.length t=some i:=tB hi (by show(aO L i).name.toList=_;rw[l]) fun j r=>by show(aO L j).name.toList≠t.toList;have f:=List.pairwise_iff_getElem.1 d.s j i (by omega) hi r;rw[e] at f;have m:=(fY f).2;rw[dn (by omega)];rw[beq_eq_false_iff_ne] at m;exact fun e=>m e.symm
 have:=pO (S:=⟨L.length,aO L,(ce f1 t n1).length,ba (ce f1 t n1)⟩) (nm:=t) (i:=i) (tD d) hn k;rw[this];show(⟨0,(aO L i).text,[]⟩:iI)=_;rw[l]
end Go.Proofs.YtkophfgkcijjkaaGreatDoor.Vp
