import Derived.Test.YtkophfgkcijjkaaGreatDoorZL
import Derived.Sort.Walk0
import Derived.Sort.EncStr
set_option maxRecDepth 100000
set_option maxHeartbeats 4000000
namespace Go.Proofs.YtkophfgkcijjkaaGreatDoor.Vp
open RowKit
def bH:List (List UInt8)->List UInt8->List (List UInt8)
 | [],x=>[x]
 | y :: ys,x=>if y<x then y :: bH ys x else if y=x then y :: ys else x :: y :: ys
theorem ed (l:List (List UInt8))(x z:List UInt8):z∈bH l x ↔ z∈l∨z=x:=by
 induction l with
 | nil=>simp[bH]
 | cons y ys b =>
  rw[bH];split
  ·rw[List.mem_cons,b,List.mem_cons,or_assoc]
  ·split
   ·rename_i e
    subst e;simp only[List.mem_cons];constructor
    ·exact fun h=>.inl h
    ·rintro(h | h)
     ·exact h
     ·exact .inl h
   ·simp only[List.mem_cons]
    constructor
    ·rintro(h | h | h)
     ·exact .inr h
     ·exact .inl (.inl h)
     ·exact .inl (.inr h)
    ·rintro((h | h) | h)
     ·exact .inr (.inl h)
     ·exact .inr (.inr h)
     ·exact .inl h
theorem lL {x y:List UInt8}(d:¬ y<x)(c:y≠x):x<y:=by
 rcases List.le_total x y with h | h
 ·exact Classical.byContradiction fun b=>c (List.le_antisymm b h)
 ·exact Classical.byContradiction fun b=>c (List.le_antisymm h d)
theorem iW {l:List (List UInt8)}(h:l.Pairwise (· < ·))(x:List UInt8):(bH l x).Pairwise (· < ·):=by
 induction l with
 | nil=>simp[bH]
 | cons y ys f =>
  obtain⟨d,i⟩:=List.pairwise_cons.1 h;rw[bH];split
  ·rename_i c
   refine List.pairwise_cons.2 ⟨fun z hz=>?_,f i⟩;rcases(ed _ _ _).1 hz with hz | rfl
   ·exact d z hz
   ·exact c
  ·split
   ·exact h
   ·rename_i hn g
    have b:=lL hn g;refine List.pairwise_cons.2 ⟨fun z hz=>?_,h⟩;rcases List.mem_cons.1 hz with rfl | hz
    ·exact b
    ·exact List.lt_trans b (d z hz)
theorem rI:∀ {l m:List (List UInt8)},l.Pairwise (· < ·)->m.Pairwise (· < ·)->(∀ z,z∈l ↔ z∈m)->l=m
 | [],[],_,_,_=>rfl
 | [],y :: ys,_,_,h=>by have:=(h y).2 (by simp);simp at this
 | x :: xs,[],_,_,h=>by have:=(h x).1 (by simp);simp at this
 | x :: xs,y :: ys,h1,h2,h=>by
  obtain⟨a1,i⟩:=List.pairwise_cons.1 h1;obtain⟨d,g⟩:=List.pairwise_cons.1 h2;have f:x=y:=by
   rcases List.mem_cons.1 ((h x).1 (by simp)) with e | e
   ·exact e
   ·rcases List.mem_cons.1 ((h y).2 (by simp)) with c | c
    ·exact c.symm
    ·exact absurd (List.lt_trans (d x e) (a1 y c)) (List.lt_irrefl _)
  subst f;congr 1;refine rI i g fun z=>?_;have hz:=h z;simp only[List.mem_cons] at hz;constructor
  ·intro b
   rcases hz.1 (.inr b) with e | e
   ·subst e;exact absurd (a1 _ b) (List.lt_irrefl _)
   ·exact e
  ·intro b
   rcases hz.2 (.inr b) with e | e
   ·subst e;exact absurd (d _ b) (List.lt_irrefl _)
   ·exact e
theorem vw {d:List (List UInt8)}(h:d.Nodup):(d.mergeSort (fun x y=>decide (x<=y))).Pairwise (· < ·):=by
 have i:(d.mergeSort (fun x y=>decide (x<=y))).Pairwise (fun x y=>decide (x<=y)=true) :=
  List.pairwise_mergeSort (fun a b c g f=>by simp only[decide_eq_true_eq] at *;exact List.le_trans g f) (fun a b=>by simp only[Bool.or_eq_true,decide_eq_true_eq];exact List.le_total a b) d
 have hn:(d.mergeSort (fun x y=>decide (x<=y))).Nodup:=(List.mergeSort_perm d _).nodup_iff.2 h;refine(i.and hn).imp ?_;rintro a b ⟨j,k⟩;exact lL (by simpa using j) (Ne.symm k)
theorem xG {b l:List (List UInt8)}(h:b.Nodup)(c:l.Pairwise (· < ·))(d:∀ z,z∈b ↔ z∈l):b.mergeSort (fun x y=>decide (x<=y))=l :=
 rI (vw h) c fun z=>by rw[<-d z];exact(List.mergeSort_perm b _).mem_iff
theorem rJ:∀ (l:List (List UInt8)) (x:List UInt8) (k:Nat),k<=l.length->(∀ j (h:j<l.length),j<k->l[j]<x)->(∀ h:k<l.length,¬ l[k]<x)->bH l x=if l[k]?=some x then l else l.take k++x :: l.drop k
 | [],x,k,hk,_,_=>by simp at hk;subst hk;simp[bH]
 | y :: ys,x,0,hk,h1,h2=>by have:=h2 (by simp);simp only[List.getElem_cons_zero] at this;rw[bH,if_neg this];simp
 | y :: ys,x,k+1,hk,h1,h2=>by have b:=h1 0 (by simp) (by omega);simp only[List.getElem_cons_zero] at b;rw[bH,if_pos b,rJ ys x k (by simpa using hk) (fun j h hj=>by have:=h1 (j+1) (by simpa using h) (by omega);simpa using this) (fun h=>by have:=h2 (by simpa using h);simpa using this)];simp only[List.getElem?_cons_succ,List.take_succ_cons,List.drop_succ_cons];split<;>rfl
theorem fK (l:List (List UInt8))(x:List UInt8):(bH l x).length<=l.length+1:=by
 induction l with
 | nil=>simp[bH]
 | cons y ys ih =>
  rw[bH];split
  ·simp only[List.length_cons];omega
  ·split<;>simp
end Go.Proofs.YtkophfgkcijjkaaGreatDoor.Vp
namespace Go.Proofs.YtkophfgkcijjkaaGreatDoor.Vp
open RowKit Go.Sort
def nmF (L:List (List UInt8))(j:Nat):ByteArray:=⟨(L.getD j []).toArray⟩
theorem eY {L:List (List UInt8)}{j:Nat}(h:j<L.length):(nmF L j).toList=L[j]:=by simp[nmF,ByteArray.toList_eq,List.getD,h]
theorem mI {L:List (List UInt8)}{j:Nat}(h:j<L.length):Value.string (nmF L j)=encStr L[j]:=by simp[nmF,List.getD,h]
theorem vA (x:ByteArray):(⟨x.toList.toArray⟩:ByteArray)=x:=by rw[ByteArray.toList_eq]
theorem qH {w:World}{j g c:Nat}{L:List (List UInt8)}(h:w.ownsRow j 9 1 (.slice (some ⟨g,0,none⟩) L.length c) L.length (L.map encStr)):RowStr w g 0 L.length (nmF L):=by
 rcases h.2 with ⟨b,h0⟩ | ⟨g',cap,d,b,hb,f,hc1,hc2,hc3,n⟩
 ·simp at b
 ·simp only[Value.slice.injEq,Option.some.injEq,Addr.mk.injEq] at b
  obtain⟨⟨rfl,-⟩,-,rfl⟩:=b;have l:g<w.heap.size:=by
   rcases Nat.lt_or_ge g w.heap.size with k | k
   ·exact k
   ·rw[Array.getElem?_eq_none k] at f;simp at f
  refine⟨l,fun i hi=>?_⟩;have o:w.cell? ⟨g,0+i,none⟩=d[i]?:=by simp[World.cell?,f]
  have m:(d.toList.take (L.length*1))[i]?=(L.map encStr)[i]?:=by rw[n]
  rw[List.getElem?_take,if_pos (by omega),Array.getElem?_toList,List.getElem?_map,gq hi] at m;rw[o,m,mI hi];rfl
theorem kW {w:World}{b off n:Nat}{L:List (List UInt8)}(hR:RowStr w b off n (nmF L))(hn:n=L.length)(k m:Nat):∀ j u,(((L.drop k).take m).map encStr)[j]?=some u->w.cell? ((⟨b,off+k,none⟩:Addr).add j)=some u:=by
 intro j u c;rw[List.getElem?_map,List.getElem?_take] at c;split at c
 ·rw[List.getElem?_drop] at c
  rcases Nat.lt_or_ge (k+j) L.length with d | d
  ·rw[gq d] at c
   have:=hR.2 (k+j) (by omega);rw[mI d] at this;rw[Addr.add_lit,Nat.add_assoc,this];simpa using c
  ·rw[List.getElem?_eq_none d] at c
   simp at c
 ·simp at c
theorem nC {w:World}{b off n cap:Nat}{L:List (List UInt8)}(hR:RowStr w b off n (nmF L))(hn:n=L.length)(k:Nat)(hk:k<=n)(hc:(n:Int)<=cap):∀ j u,(((L.drop k).take (n - k)).map encStr)[j]?=some u->w.cell? ((⟨b,off+if cap=k then 0 else k,none⟩:Addr).add j)=some u:=by
 by_cases h:cap=k
 ·have:n - k=0:=by omega
  rw[this];intro j u c;simp at c
 ·rw[if_neg h]
  exact kW hR hn k (n - k)
theorem j9 (l:List (List UInt8)):∀ u∈l.map encStr,u.oneCell'=true:=by intro u b;obtain⟨x,-,rfl⟩:=List.mem_map.1 b;rfl
theorem xH:(Tryz.prog.info? 9).map (fun i=>(i.zero,i.size,i.bytes))=some (some (.string ⟨#[]⟩),1,16):=by kernel_rfl
theorem nE {L:List (List UInt8)}{x:List UInt8}{n k:Nat}(hL:n=L.length)(hk:k<=n)(c:∀ j,j<k->(nmF L j).toList<x)(b:k<n->¬ (nmF L k).toList<x):bH L x=if L[k]?=some x then L else L.take k++x :: L.drop k :=
 rJ L x k (by omega) (fun j h d=>by rw[<-eY h];exact c j d) (fun h=>by rw[<-eY h];exact b (by omega))
theorem t8 {L:List (List UInt8)}{x:List UInt8}{n k:Nat}(hL:n=L.length)(g:k<n)(d:∀ j,j<k->(nmF L j).toList<x)(c:¬ (nmF L k).toList<x)(f:(nmF L k).toList=x):bH L x=L:=by
 have b:k<L.length:=by omega
 rw[nE hL (Nat.le_of_lt g) d (fun _=>c),if_pos];rw[gq b,<-eY b,f]
theorem oV {w:World}{q n k:Nat}{v:Value}{L:List (List UInt8)}{x:ByteArray}(h:w.ownsRow q 9 1 v (0+k+1+(n - k)) ([]++(L.take k).map encStr++[.string x]++((L.drop k).take (n - k)).map encStr))(hL:n=L.length)(z:k<=n)
  (s:∀ j,j<k->(nmF L j).toList<x.toList) (p:k<n->¬ (nmF L k).toList<x.toList/\(nmF L k).toList≠x.toList) :
  ∃ r b m d:Nat,v=.slice (some ⟨r,b,none⟩) m d/\m=(bH L x.toList).length/\(m:Int)<=d/\RowStr w r b m (nmF (bH L x.toList)):=by
 rw[List.take_of_length_le (l:=L.drop k) (by simp;omega)] at h;have e:bH L x.toList=L.take k++x.toList :: L.drop k:=by
  rw[nE hL z s (fun h=>(p h).1),if_neg];intro i;rcases Nat.lt_or_ge k L.length with o | o
  ·rw[gq o,<-eY o] at i
   exact(p (by omega)).2 (by simpa using i)
  ·rw[List.getElem?_eq_none o] at i
   simp at i
 have y:(bH L x.toList).map encStr=[]++(L.take k).map encStr++[.string x]++(L.drop k).map encStr:=by rw[e];simp[vA]
 have t:0+k+1+(n - k)=(bH L x.toList).length:=by rw[e];simp;omega
 rw[t,<-y] at h;have u:0<(bH L x.toList).length:=by omega
 obtain⟨g,c,rfl⟩:=fJ h u;refine⟨g,0,_,c,rfl,rfl,?_,qH h⟩;rcases h.2 with ⟨f,h0⟩ | ⟨g',cap,cur,f,hb,hg,hc1,hc2,hc3,hc4⟩
 ·simp at f
 ·simp only[Value.slice.injEq] at f
  obtain⟨-,-,rfl⟩:=f;omega
theorem fV (b off n cap:Nat)(L:List (List UInt8))(x:ByteArray)(w:World)(hL:n=L.length)(hn:(n:Int)<=1048576)(G:(n:Int)<=cap)(hR:RowStr w b off n (nmF L)):Calls Tryz.prog 113 #[.slice (some ⟨b,off,none⟩) n cap,.string x] w fun e X=>∃ C g z l:Nat,e=.returned (.slice (some ⟨C,g,none⟩) z l)/\z=(bH L x.toList).length/\(z:Int)<=l/\RowStr X C g z (nmF (bH L x.toList))/\Below w.heap.size w X:=by
 obtain⟨D,hi,r,q,p⟩:=info_parts xH;have y:=ae hR;have m:=ae hL;clear hR hL;go_enter Tryz.func113,Tryz.ntmps113;go_wp2;go_loop [5] (fun i=>∃ k:Nat,k<=n/\i=.int .i64 k/\Hid (∀ j,j<k->(nmF L j).toList<x.toList)) (fun i=>n - (intOf i).toNat);case atStart=>exact⟨0,by omega,rfl,fun j Z=>absurd Z (Nat.not_lt_zero _)⟩
 case round =>
  obtain⟨k,K,rfl,J⟩:=hrel;have hkc:(k:Int)<=cap:=by omega
  by_cases M:k<n
  ·have hck:=y.out.2 k M
   cases hb:Op.bytesLess (nmF L k).toList x.toList with
   | true =>
    go_wp2
    exact⟨⟨k+1,by omega,by go_num,fun j Z=>by
     by_cases e:j=k
     ·subst e;rw[bytesLess_eq] at hb;exact of_decide_eq_true hb
     ·exact J.out j (by omega)⟩,by simp[intOf];omega⟩
   | false =>
    have N:¬ (nmF L k).toList<x.toList:=by rw[bytesLess_eq] at hb;exact of_decide_eq_false hb
    have I:=ae N;clear N;cases he:((nmF L k).toList == x.toList) with
    | true =>have Y:=ae (t8 m.out M J.out I.out (by simpa using he));go_wp2;go_ret;exact⟨b,off,n,cap,rfl,by rw[Y.out];exact m.out,by omega,by rw[Y.out];exact y.out,Below.refl _ _⟩
    | false =>
     have U:=ae (show k<n->¬ (nmF L k).toList<x.toList/\(nmF L k).toList≠x.toList from fun _=>⟨I.out,by simpa using he⟩);clear I;have B:=ae (rH w 9 1);have A:=ae ((q9 w).alloc ly (.cells #[] 9));have E:=ae (kW (y.out.below A.out ly) m.out 0 k);go_wp2_with (at_builtin;refine wpList_append_own _ rfl (.tmp 34) (.tmp 37) 39 rfl w.heap.size 9 D (.string ⟨#[]⟩) 1 16 Tryz.underlying39 hi r q p rfl (by decide) (.slice (some ⟨w.heap.size,0,none⟩) 0 0) 0 [] (by simp[Act.eval]) B.out ⟨b,off,none⟩ k cap ((L.take k).map encStr) (by simp[Act.eval]) (by have:=m.out;first | (simp;done) | (simp;omega)) (by simpa using E.out) (j9 _) (by unfold maxLen;omega) (by omega) (by simp) ?_;intro V s d c f;have o:=ae d;have u:=ae (bg A.out c (by simp) (fun j e=>(B.out.lt j e).1));clear d c f E B A);have R1:=ae (y.out.below u.out ly);have z1:=u.out.size
     go_region_law (first
      | (refine cW rfl (.tmp 39) (.tmp 41) 39 rfl w.heap.size 9 D (.string ⟨#[]⟩) 1 16 Tryz.underlying39 hi r q p rfl (by decide) V (0+k) ([]++(L.take k).map encStr) (by simp[Act.eval]) (by first | exact o.out.alloc _ | exact o.out.drew.alloc _ | exact o.out.drew.drew.alloc _) ⟨s.heap.size,0,none⟩ 1 1 [.string x] (by simp[Act.eval]) rfl (by first | exact dL s _ _ | exact dL s.drew _ _ | exact dL s.drew.drew _ _) (by simp[Value.oneCell']) (by unfold maxLen;omega) (by omega) (by simp<;>omega) ?_;intro W w2 d c f;have H:=ae d;(first | have t:=ae (bg (u.out.alloc z1 _) c (by simp<;>omega) (fun j e=>(o.out.lt j e).1)) | have t:=ae (bg (u.out.drew.alloc (by simpa using z1) _) c (by simp<;>omega) (fun j e=>(o.out.lt j e).1)));have T:=ae (y.out.below t.out ly);have Q:=ae (nC T.out m.out k K G);have z2:=t.out.size;clear d c f)
      | (refine cW rfl (.tmp 42) (.tmp 45) 39 rfl w.heap.size 9 D (.string ⟨#[]⟩) 1 16 Tryz.underlying39 hi r q p rfl (by decide) W (0+k+1) ([]++(L.take k).map encStr++[.string x]) (by simp[Act.eval]) H.out ⟨b,off+if cap=k then 0 else k,none⟩ (n - k) (cap - k) (((L.drop k).take (n - k)).map encStr) (by by_cases h:cap=k<;>simp[Act.eval,h]) (by have:=m.out;first | (simp;done) | (simp;omega)) Q.out (j9 _) (by unfold maxLen;omega) (by omega) z2 ?_;intro v3 w3 d c f;have P:=ae d;have S:=ae (bg t.out c z2 (fun j e=>(H.out.lt j e).1));clear d c f))
     all_goals go_wp2
     all_goals
      obtain⟨C,g,z,l,rfl,R,h2,O⟩:=oV P.out m.out K J.out U.out;go_ret;exact⟨C,g,z,l,rfl,R,by omega,O,S.out⟩
  ·obtain rfl:k=n:=by omega
   have U:=ae (show k<k->¬ (nmF L k).toList<x.toList/\(nmF L k).toList≠x.toList from fun h=>absurd h (Nat.lt_irrefl _));have B:=ae (rH w 9 1);have A:=ae ((q9 w).alloc ly (.cells #[] 9));have E:=ae (kW (y.out.below A.out ly) m.out 0 k);go_wp2_with (at_builtin;refine wpList_append_own _ rfl (.tmp 34) (.tmp 37) 39 rfl w.heap.size 9 D (.string ⟨#[]⟩) 1 16 Tryz.underlying39 hi r q p rfl (by decide) (.slice (some ⟨w.heap.size,0,none⟩) 0 0) 0 [] (by simp[Act.eval]) B.out ⟨b,off,none⟩ k cap ((L.take k).map encStr) (by simp[Act.eval]) (by have:=m.out;first | (simp;done) | (simp;omega)) (by simpa using E.out) (j9 _) (by unfold maxLen;omega) (by omega) (by simp) ?_;intro V s d c f;have o:=ae d;have u:=ae (bg A.out c (by simp) (fun j e=>(B.out.lt j e).1));clear d c f E B A);have R1:=ae (y.out.below u.out ly);have z1:=u.out.size
   go_region_law (first
    | (refine cW rfl (.tmp 39) (.tmp 41) 39 rfl w.heap.size 9 D (.string ⟨#[]⟩) 1 16 Tryz.underlying39 hi r q p rfl (by decide) V (0+k) ([]++(L.take k).map encStr) (by simp[Act.eval]) (by first | exact o.out.alloc _ | exact o.out.drew.alloc _ | exact o.out.drew.drew.alloc _) ⟨s.heap.size,0,none⟩ 1 1 [.string x] (by simp[Act.eval]) rfl (by first | exact dL s _ _ | exact dL s.drew _ _ | exact dL s.drew.drew _ _) (by simp[Value.oneCell']) (by unfold maxLen;omega) (by omega) (by simp<;>omega) ?_;intro W w2 d c f;have H:=ae d;(first | have t:=ae (bg (u.out.alloc z1 _) c (by simp<;>omega) (fun j e=>(o.out.lt j e).1)) | have t:=ae (bg (u.out.drew.alloc (by simpa using z1) _) c (by simp<;>omega) (fun j e=>(o.out.lt j e).1)));have T:=ae (y.out.below t.out ly);have Q:=ae (nC T.out m.out k K G);have z2:=t.out.size;clear d c f)
    | (refine cW rfl (.tmp 42) (.tmp 45) 39 rfl w.heap.size 9 D (.string ⟨#[]⟩) 1 16 Tryz.underlying39 hi r q p rfl (by decide) W (0+k+1) ([]++(L.take k).map encStr++[.string x]) (by simp[Act.eval]) H.out ⟨b,off+if cap=k then 0 else k,none⟩ (k - k) (cap - k) (((L.drop k).take (k - k)).map encStr) (by by_cases h:cap=k<;>simp[Act.eval,h]) (by have:=m.out;first | (simp;done) | (simp;omega)) Q.out (j9 _) (by unfold maxLen;omega) (by omega) z2 ?_;intro v3 w3 d c f;have P:=ae d;have S:=ae (bg t.out c z2 (fun j e=>(H.out.lt j e).1));clear d c f))
   all_goals go_wp2
   all_goals
    obtain⟨C,g,z,l,rfl,R,h2,O⟩:=oV P.out m.out K J.out U.out;go_ret;exact⟨C,g,z,l,rfl,R,by omega,O,S.out⟩
def cf (f:Nat->ar):Nat->List (List UInt8)
 | 0=>[]
 | k+1=>if (f k).kind=1 then bH (cf f k) (f k).name.toList else cf f k
theorem vB (f:Nat->ar)(k:Nat):(cf f k).Pairwise (· < ·):=by
 induction k with
 | zero=>exact List.Pairwise.nil
 | succ k b =>
  rw[cf];split
  ·exact iW b _
  ·exact b
theorem oW (f:Nat->ar)(k:Nat):(cf f k).length<=k:=by
 induction k with
 | zero=>exact Nat.le_refl _
 | succ k ih =>
  rw[cf];split
  ·have:=fK (cf f k) (f k).name.toList
   omega
  ·omega
def fA (acc:List (List UInt8))(g:Nat->Link):Nat->List (List UInt8)
 | 0=>acc
 | j+1=>bH (fA acc g j) (g j).name.toList
theorem vC {acc:List (List UInt8)}(h:acc.Pairwise (· < ·))(g:Nat->Link)(j:Nat):(fA acc g j).Pairwise (· < ·):=by
 induction j with
 | zero=>exact h
 | succ j b=>exact iW b _
theorem oX (acc:List (List UInt8))(g:Nat->Link)(j:Nat):(fA acc g j).length<=acc.length+j:=by
 induction j with
 | zero=>exact Nat.le_refl _
 | succ j ih =>have:=fK (fA acc g j) (g j).name.toList;rw[fA];omega
def aV (f:Nat->ar):Nat->List (List UInt8)
 | 0=>[]
 | k+1=>fA (bH (aV f k) (f k).name.toList) (f k).links (f k).linksN
theorem ua (f:Nat->ar)(k:Nat):(aV f k).Pairwise (· < ·):=by
 induction k with
 | zero=>exact List.Pairwise.nil
 | succ k b=>exact vC (iW b _) _ _
theorem nF {f:Nat->ar}{k:Nat}(h:∀ p,p<k->(f p).linksN<=200):(aV f k).length<=k*201:=by
 induction k with
 | zero=>exact Nat.le_refl _
 | succ k b =>have h1:=b fun p hp=>h p (by omega);have h2:=oX (bH (aV f k) (f k).name.toList) (f k).links (f k).linksN;have h3:=fK (aV f k) (f k).name.toList;have h4:=h k (by omega);rw[aV];omega
def gO (f:Nat->ar)(n:Nat):List (List UInt8):=if bK f n=true then cf f n else []
def gP (f:Nat->ar)(n:Nat):List (List UInt8):=if bK f n=true then aV f n else []
theorem vD (f:Nat->ar)(n:Nat):(gO f n).length<=1048576:=by
 unfold gO;split
 ·rename_i h
  have h1:=dT h;have h2:=oW f n;omega
 ·simp
theorem vE (f:Nat->ar)(n:Nat):(gP f n).length<=1048576:=by
 unfold gP;split
 ·rename_i h
  have h1:=dT h;have h2:=nF (f:=f) (k:=n) (eX h);omega
 ·simp
def ee (D:Nat->Bool)(t:ByteArray)(l:Link):Bool:=l.name.toList == t.toList || (l.ask && D l.at_.toNat)
def bX (D:Nat->Bool)(t:ByteArray)(x:ar):Nat->Bool
 | 0=>false
 | j+1=>bX D t x j || ee D t (x.links j)
def bo (f:Nat->ar)(t:ByteArray):Nat->Nat->Bool
 | 0,_=>false
 | k+1,i=>if i=k then bX (bo f t k) t (f k) (f k).linksN else bo f t k i
def aQ (f:Nat->ar)(t:ByteArray):Nat->List (List UInt8)
 | 0=>[]
 | k+1=>if bo f t (k+1) k=true then bH (aQ f t k) (f k).name.toList else aQ f t k
def gi (f:Nat->ar)(n:Nat)(t:ByteArray):List (List UInt8):=if bK f n=true then aQ f t n else []
theorem ef {f:Nat->ar}{t:ByteArray}{k m i:Nat}(hi:i<k)(hk:k<=m):bo f t m i=bo f t k i:=by
 induction m with
 | zero=>omega
 | succ m b =>
  by_cases e:k=m+1
  ·rw[e]
  ·rw[bo,if_neg (by omega),b (by omega)]
theorem iX (f:Nat->ar)(t:ByteArray)(k:Nat):bo f t (k+1) k=bX (bo f t k) t (f k) (f k).linksN:=by rw[bo,if_pos rfl]
theorem sN {D:Nat->Bool}{t:ByteArray}{x:ar}{n:Nat}(h:bX D t x n=false):∀ j,j<n->ee D t (x.links j)=false:=by
 induction n with
 | zero=>intro j c;omega
 | succ n b =>
  rw[bX,Bool.or_eq_false_iff] at h;intro j c;by_cases e:j=n
  ·subst e;exact h.2
  ·exact b h.1 j (by omega)
theorem sO {D:Nat->Bool}{t:ByteArray}{x:ar}{j n:Nat}(hj:j<=n)(h:bX D t x j=true):bX D t x n=true:=by
 induction n with
 | zero =>
  obtain rfl:j=0:=by omega
  exact h
 | succ n b =>
  by_cases e:j=n+1
  ·subst e;exact h
  ·rw[bX,b (by omega),Bool.true_or]
theorem sP {D E:Nat->Bool}{t:ByteArray}{l:Link}{p:Nat}(b:l.ask=true->l.at_.toNat<p)(h:∀ i,i<p->D i=E i):ee D t l=ee E t l:=by
 unfold ee;cases hk:l.ask with
 | true=>rw[h _ (b hk)]
 | false=>rfl
theorem qI {D E:Nat->Bool}{t:ByteArray}{x:ar}{p n:Nat}(b:∀ j,j<n->(x.links j).ask=true->(x.links j).at_.toNat<p)(h:∀ i,i<p->D i=E i):bX D t x n=bX E t x n:=by
 induction n with
 | zero=>rfl
 | succ n c=>rw[bX,bX,c (fun j hj=>b j (by omega)),sP (b n (by omega)) h]
theorem iY {f:Nat->ar}{t:ByteArray}{k:Nat}(z:List UInt8):z∈aQ f t k ↔ ∃ i,i<k/\bo f t k i=true/\(f i).name.toList=z:=by
 induction k with
 | zero=>simp[aQ]
 | succ k g =>
  rw[aQ];constructor
  ·intro h
   split at h
   ·rename_i l
    rcases(ed _ _ _).1 h with h | h
    ·obtain⟨i,d,b,c⟩:=g.1 h
     exact⟨i,by omega,by rw[ef d (by omega)];exact b,c⟩
    ·exact⟨k,by omega,l,h.symm⟩
   ·obtain⟨i,d,b,c⟩:=g.1 h
    exact⟨i,by omega,by rw[ef d (by omega)];exact b,c⟩
  ·rintro⟨i,d,b,c⟩
   by_cases e:i=k
   ·subst e
    rw[if_pos b];exact(ed _ _ _).2 (.inr c.symm)
   ·have j:z∈aQ f t k:=g.2 ⟨i,by omega,by rw[ef (show i<k by omega) (by omega)] at b;exact b,c⟩
    split
    ·exact(ed _ _ _).2 (.inl j)
    ·exact j
theorem oY (f:Nat->ar)(t:ByteArray)(k:Nat):(aQ f t k).Pairwise (· < ·):=by
 induction k with
 | zero=>exact List.Pairwise.nil
 | succ k b =>
  rw[aQ];split
  ·exact iW b _
  ·exact b
theorem kY (f:Nat->ar)(t:ByteArray)(k:Nat):(aQ f t k).length<=k:=by
 induction k with
 | zero=>exact Nat.le_refl _
 | succ k ih =>
  rw[aQ];split
  ·have:=fK (aQ f t k) (f k).name.toList
   omega
  ·omega
theorem vF (f:Nat->ar)(n:Nat)(t:ByteArray):(gi f n t).length<=1048576:=by
 unfold gi;split
 ·rename_i h
  have h1:=dT h;have h2:=kY f t n;omega
 ·simp
theorem vG {f:Nat->ar}{t:ByteArray}{n p j:Nat}(h:bK f n=true)(d:p<n)(l:j<(f p).linksN)(g:((f p).links j).ask=true):((f p).links j).name.toList∈aQ f t p ↔ bo f t p ((f p).links j).at_.toNat=true:=by
 obtain⟨h1,m,c⟩:=ny h p d j l g;rw[iY];constructor
 ·rintro⟨i,hi,b,k⟩
  have:i=((f p).links j).at_.toNat:=tX h i _ (by omega) (by omega) (by rw[k,c]);rw[<-this];exact b
 ·intro b
  exact⟨_,m,b,c⟩
theorem vH (acc:List (List UInt8))(g:Nat->Link)(j:Nat)(z:List UInt8):z∈fA acc g j ↔ z∈acc∨∃ i,i<j/\(g i).name.toList=z:=by
 induction j with
 | zero=>simp[fA]
 | succ j b =>
  rw[fA,ed,b];constructor
  ·rintro((h | ⟨i,hi,h⟩) | h)
   ·exact .inl h
   ·exact .inr ⟨i,by omega,h⟩
   ·exact .inr ⟨j,by omega,h.symm⟩
  ·rintro(h | ⟨i,hi,h⟩)
   ·exact .inl (.inl h)
   ·by_cases e:i=j
    ·subst e;exact .inr h.symm
    ·exact .inl (.inr ⟨i,by omega,h⟩)
theorem fl (f:Nat->ar)(k:Nat)(z:List UInt8):z∈aV f k ↔ ∃ i,i<k/\((f i).name.toList=z∨∃ j,j<(f i).linksN/\((f i).links j).name.toList=z):=by
 induction k with
 | zero=>simp[aV]
 | succ k b =>
  rw[aV,vH,ed,b];constructor
  ·rintro((⟨i,hi,h⟩ | h) | ⟨j,hj,h⟩)
   ·exact⟨i,by omega,h⟩
   ·exact⟨k,by omega,.inl h.symm⟩
   ·exact⟨k,by omega,.inr ⟨j,hj,h⟩⟩
  ·rintro⟨i,hi,h⟩
   by_cases e:i=k
   ·subst e
    rcases h with h | h
    ·exact .inl (.inr h.symm)
    ·exact .inr h
   ·exact .inl (.inl ⟨i,by omega,h⟩)
theorem ub {D:Nat->Bool}{t:ByteArray}{x:ar}{n:Nat}(h:bX D t x n=true):∃ j,j<n/\ee D t (x.links j)=true:=by
 induction n with
 | zero=>simp[bX] at h
 | succ n b =>
  rw[bX,Bool.or_eq_true] at h;rcases h with h | h
  ·obtain⟨j,hj,e⟩:=b h
   exact⟨j,by omega,e⟩
  ·exact⟨n,by omega,h⟩
theorem iZ {f:Nat->ar}{t:ByteArray}:∀ {k i:Nat},bo f t k i=true->∃ p j,p<k/\j<(f p).linksN/\((f p).links j).name.toList=t.toList
 | 0,i,h=>by simp[bo] at h
 | k+1,i,h=>by
  rw[bo] at h;split at h
  ·obtain⟨j,l,e⟩:=ub h
   unfold ee at e;rw[Bool.or_eq_true,Bool.and_eq_true] at e;rcases e with e | ⟨_,e⟩
   ·exact⟨k,j,by omega,l,eq_of_beq e⟩
   ·obtain⟨p,b,g,d,c⟩:=iZ e
    exact⟨p,b,by omega,d,c⟩
  ·obtain⟨p,b,g,d,c⟩:=iZ h
   exact⟨p,b,by omega,d,c⟩
theorem qJ {f:Nat->ar}{t:ByteArray}{n p j:Nat}(hp:p<n)(hj:j<(f p).linksN)(h:((f p).links j).name.toList=t.toList):bo f t n p=true:=by rw[ef (k:=p+1) (by omega) (by omega),iX];refine sO (j:=j+1) (by omega) ?_;rw[bX,Bool.or_eq_true];refine .inr ?_;unfold ee;rw[h];simp
theorem nG {f:Nat->ar}{t:ByteArray}{n:Nat}{z:List UInt8}(h:z∈aQ f t n):z∈aV f n:=by obtain⟨i,hi,_,e⟩:=(iY z).1 h;exact(fl f n z).2 ⟨i,hi,.inl e⟩
theorem vI {f:Nat->ar}{t:ByteArray}{n:Nat}:t.toList∈aV f n ↔ (∃ i,i<n/\(f i).name.toList=t.toList)∨aQ f t n≠[]:=by
 rw[fl];constructor
 ·rintro⟨i,hi,h | ⟨j,g,h⟩⟩
  ·exact .inl ⟨i,hi,h⟩
  ·refine .inr fun e=>?_
   have:(f i).name.toList∈aQ f t n:=(iY _).2 ⟨i,hi,qJ hi g h,rfl⟩;rw[e] at this;simp at this
 ·rintro(⟨i,hi,h⟩ | h)
  ·exact⟨i,hi,.inl h⟩
  ·obtain⟨z,hz⟩:=List.exists_mem_of_ne_nil _ h
   obtain⟨i,hi,c,_⟩:=(iY z).1 hz;obtain⟨p,j,d,k,b⟩:=iZ c;exact⟨p,d,.inr ⟨j,k,b⟩⟩
theorem oZ (f:Nat->ar)(k:Nat)(z:List UInt8):z∈cf f k ↔ ∃ i,i<k/\(f i).kind=1/\(f i).name.toList=z:=by
 induction k with
 | zero=>simp[cf]
 | succ k c =>
  rw[cf];split
  ·rename_i b
   rw[ed,c];constructor
   ·rintro(⟨i,hi,h⟩ | h)
    ·exact⟨i,by omega,h⟩
    ·exact⟨k,by omega,b,h.symm⟩
   ·rintro⟨i,hi,h⟩
    by_cases e:i=k
    ·subst e;exact .inr h.2.symm
    ·exact .inl ⟨i,by omega,h⟩
  ·rename_i b
   rw[c];constructor
   ·rintro⟨i,hi,h⟩
    exact⟨i,by omega,h⟩
   ·rintro⟨i,hi,h⟩
    by_cases e:i=k
    ·subst e;exact absurd h.1 b
    ·exact⟨i,by omega,h⟩
end Go.Proofs.YtkophfgkcijjkaaGreatDoor.Vp
