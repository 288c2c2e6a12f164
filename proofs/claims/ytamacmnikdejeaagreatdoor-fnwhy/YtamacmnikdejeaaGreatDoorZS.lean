import Derived.Test.YtamacmnikdejeaaGreatDoorZM
import Derived.Sort.Walk0
import Derived.Sort.EncStr
set_option maxRecDepth 100000
set_option maxHeartbeats 4000000
set_option linter.unusedSimpArgs false
open Go.Addr renaming mk->T
open Go.Value renaming slice->Y,string->U
open Option renaming none->Z,some->N
open Go renaming World->H
open Bool renaming true->QR
namespace Go.Proofs.YtamacmnikdejeaaGreatDoor.Vp
open RowKit
def bX:List (List UInt8)->List UInt8->List (List UInt8)
 | [],x=>[x]
 | y :: ys,x=>if y<x then y :: bX ys x else if y=x then y :: ys else x :: y :: ys
theorem fD (l:List (List UInt8))(x z:List UInt8):z∈bX l x ↔ z∈l∨z=x:=by
 induction l with
 | nil=>simp[bX]
 | cons y ys b =>
  rw[bX];split
  ·rw[nD,b,nD,or_assoc]
  ·split
   ·rename_i e
    subst e;simp only[nD];constructor
    ·exact fun h=>.inl h
    ·rintro(h | h)
     ·exact h
     ·exact .inl h
   ·simp only[nD]
    constructor
    ·rintro(h | h | h)
     ·exact .inr h
     ·exact .inl (.inl h)
     ·exact .inl (.inr h)
    ·rintro((h | h) | h)
     ·exact .inr (.inl h)
     ·exact .inr (.inr h)
     ·exact .inl h
theorem pn {x y:List UInt8}(h1:¬ y<x)(h2:y≠x):x<y:=by
 rcases List.le_total x y with h | h
 ·exact KI fun b=>h2 (List.le_antisymm b h)
 ·exact KI fun b=>h2 (List.le_antisymm h h1)
theorem oB {l:List (List UInt8)}(h:l.Pairwise (· < ·))(x:List UInt8):(bX l x).Pairwise (· < ·):=by
 induction l with
 | nil=>simp[bX]
 | cons y ys g =>
  obtain⟨h1,h2⟩:=KQ.1 h;rw[bX];split
  ·rename_i c
   refine KQ.2 ⟨fun z hz=>?_,g h2⟩;rcases(fD _ _ _).1 hz with hz | rfl
   ·exact h1 z hz
   ·exact c
  ·split
   ·exact h
   ·rename_i hn f
    have b:=pn hn f;refine KQ.2 ⟨fun z hz=>?_,h⟩;rcases nD.1 hz with rfl | hz
    ·exact b
    ·exact List.lt_trans b (h1 z hz)
theorem qp:∀ {l m:List (List UInt8)},l.Pairwise (· < ·)->m.Pairwise (· < ·)->(∀ z,z∈l ↔ z∈m)->l=m
 | [],[],_,_,_=>rfl
 | [],y :: ys,_,_,h=>by have:=(h y).2 (by simp);simp at this
 | x :: xs,[],_,_,h=>by have:=(h x).1 (by simp);simp at this
 | x :: xs,y :: ys,h1,h2,h=>by
  obtain⟨a1,j⟩:=KQ.1 h1;obtain⟨f,i⟩:=KQ.1 h2;have g:x=y:=by
   rcases nD.1 ((h x).1 (by simp)) with e | e
   ·exact e
   ·rcases nD.1 ((h y).2 (by simp)) with c | c
    ·exact c.symm
    ·exact absurd (List.lt_trans (f x e) (a1 y c)) (MX _)
  subst g;congr 1;refine qp j i fun z=>?_;have hz:=h z;simp only[nD] at hz;constructor
  ·intro b
   rcases hz.1 (.inr b) with e | e
   ·subst e;exact absurd (a1 _ b) (MX _)
   ·exact e
  ·intro b
   rcases hz.2 (.inr b) with e | e
   ·subst e;exact absurd (f _ b) (MX _)
   ·exact e
theorem AZ {f:List (List UInt8)}(h:f.Nodup):(f.mergeSort (fun x y=>decide (x<=y))).Pairwise (· < ·):=by
 have j:(f.mergeSort (fun x y=>decide (x<=y))).Pairwise (fun x y=>decide (x<=y)=QR) :=
  List.pairwise_mergeSort (fun a b c g i=>by simp only[kP] at *;exact List.le_trans g i) (fun a b=>by simp only[Bool.or_eq_true,kP];exact List.le_total a b) f
 have hn:(f.mergeSort (fun x y=>decide (x<=y))).Nodup:=(List.mergeSort_perm f _).nodup_iff.2 h;refine(j.and hn).imp ?_;rintro a b ⟨h1,h2⟩;exact pn (by simpa using h1) (Ne.symm h2)
theorem Ej {b l:List (List UInt8)}(h:b.Nodup)(f:l.Pairwise (· < ·))(c:∀ z,z∈b ↔ z∈l):b.mergeSort (fun x y=>decide (x<=y))=l :=
 qp (AZ h) f fun z=>by rw[<-c z];exact(List.mergeSort_perm b _).mem_iff
theorem vV:∀ (l:List (List UInt8)) (x:List UInt8) (k:Nat),k<=l.length->(∀ j (h:j<l.length),j<k->l[j]<x)->(∀ h:k<l.length,¬ l[k]<x)->bX l x=if l[k]?=N x then l else l.take k++x :: l.drop k
 | [],x,k,hk,_,_=>by simp at hk;subst hk;simp[bX]
 | y :: ys,x,0,hk,h1,h2=>by have:=h2 (by simp);simp only[List.getElem_cons_zero] at this;rw[bX,eI this];simp
 | y :: ys,x,k+1,hk,h1,h2=>by have b:=h1 0 (by simp) (by omega);simp only[List.getElem_cons_zero] at b;rw[bX,gA b,vV ys x k (by simpa using hk) (fun j h hj=>by have:=h1 (j+1) (by simpa using h) (by omega);simpa using this) (fun h=>by have:=h2 (by simpa using h);simpa using this)];simp only[MY,List.take_succ_cons,List.drop_succ_cons];split<;>rfl
theorem oC (l:List (List UInt8))(x:List UInt8):(bX l x).length<=l.length+1:=by
 induction l with
 | nil=>simp[bX]
 | cons y ys ih =>
  rw[bX];split
  ·simp only[z8];omega
  ·split<;>simp
end Go.Proofs.YtamacmnikdejeaaGreatDoor.Vp
namespace Go.Proofs.YtamacmnikdejeaaGreatDoor.Vp
open RowKit Go.Sort
def nmF (L:List (List UInt8))(j:Nat):ByteArray:=⟨(L.getD j []).toArray⟩
theorem mL {L:List (List UInt8)}{j:Nat}(h:j<L.length):(nmF L j).toList=L[j]:=by simp[nmF,D0,List.getD,h]
theorem qq {L:List (List UInt8)}{j:Nat}(h:j<L.length):Value.string (nmF L j)=encStr L[j]:=by simp[nmF,List.getD,h]
theorem Bb (x:ByteArray):(⟨x.toList.toArray⟩:ByteArray)=x:=by rw[D0]
theorem uS {w:H}{l g c:Nat}{L:List (List UInt8)}(h:w.ownsRow l 9 1 (Y (N (T g 0 Z)) L.length c) L.length (L.map encStr)):RowStr w g 0 L.length (nmF L):=by
 rcases h.2 with ⟨b,h0⟩ | ⟨g',cap,f,b,hb,j,hc1,hc2,hc3,m⟩
 ·simp at b
 ·simp only[I5,JL,NG] at b
  obtain⟨⟨rfl,-⟩,-,rfl⟩:=b;have n:g<w.heap.size:=by
   rcases KP g w.heap.size with h1 | h1
   ·exact h1
   ·rw[MD h1] at j;simp at j
  refine⟨n,fun i hi=>?_⟩;have p:w.cell? (T g (0+i) Z)=f[i]?:=by simp[World.cell?,j]
  have o:(f.toList.take (L.length*1))[i]?=(L.map encStr)[i]?:=by rw[m]
  rw[NZ,gA (by omega),J0,IN,gq hi] at o;rw[p,o,qq hi];rfl
theorem oD {w:H}{b off n:Nat}{L:List (List UInt8)}(hR:RowStr w b off n (nmF L))(hn:n=L.length)(k m:Nat):∀ j u,(((L.drop k).take m).map encStr)[j]?=N u->w.cell? (((T b (off+k) Z):Addr).add j)=N u:=by
 intro j u c;rw[IN,NZ] at c;split at c
 ·rw[List.getElem?_drop] at c
  rcases KP (k+j) L.length with h1 | h1
  ·rw[gq h1] at c
   have:=hR.2 (k+j) (by omega);rw[qq h1] at this;rw[Addr.add_lit,NW,this];simpa using c
  ·rw[J2 h1] at c
   simp at c
 ·simp at c
theorem qW {w:H}{b off n cap:Nat}{L:List (List UInt8)}(hR:RowStr w b off n (nmF L))(hn:n=L.length)(k:Nat)(hk:k<=n)(hc:(n:Int)<=cap):∀ j u,(((L.drop k).take (n - k)).map encStr)[j]?=N u->w.cell? ((⟨b,off+if cap=k then 0 else k,Z⟩:Addr).add j)=N u:=by
 by_cases h:cap=k
 ·have:n - k=0:=by omega
  rw[this];intro j u c;simp at c
 ·rw[eI h]
  exact oD hR hn k (n - k)
theorem nB (l:List (List UInt8)):∀ u∈l.map encStr,u.oneCell'=QR:=by intro u b;obtain⟨x,-,rfl⟩:=JQ.1 b;rfl
theorem Ek:(Tryz.prog.info? 9).map (fun i=>(i.zero,i.size,i.bytes))=N (N (U ⟨#[]⟩),1,16):=by kernel_rfl
theorem qX {L:List (List UInt8)}{x:List UInt8}{n k:Nat}(hL:n=L.length)(hk:k<=n)(b:∀ j,j<k->(nmF L j).toList<x)(c:k<n->¬ (nmF L k).toList<x):bX L x=if L[k]?=N x then L else L.take k++x :: L.drop k :=
 vV L x k (by omega) (fun j h f=>by rw[<-mL h];exact b j f) (fun h=>by rw[<-mL h];exact c (by omega))
theorem yZ {L:List (List UInt8)}{x:List UInt8}{n k:Nat}(hL:n=L.length)(g:k<n)(c:∀ j,j<k->(nmF L j).toList<x)(f:¬ (nmF L k).toList<x)(h:(nmF L k).toList=x):bX L x=L:=by
 have b:k<L.length:=by omega
 rw[qX hL (QD g) c (fun _=>f),gA];rw[gq b,<-mL b,h]
theorem sU {w:H}{q n k:Nat}{v:Value}{L:List (List UInt8)}{x:ByteArray}(h:w.ownsRow q 9 1 v (0+k+1+(n - k)) ([]++(L.take k).map encStr++[U x]++((L.drop k).take (n - k)).map encStr))(hL:n=L.length)(y:k<=n)
  (r:∀ j,j<k->(nmF L j).toList<x.toList) (p:k<n->¬ (nmF L k).toList<x.toList/\(nmF L k).toList≠x.toList) :
  ∃ s f m b:Nat,v=Y (N (T s f Z)) m b/\m=(bX L x.toList).length/\(m:Int)<=b/\RowStr w s f m (nmF (bX L x.toList)):=by
 rw[J6 (l:=L.drop k) (by simp;omega)] at h;have e:bX L x.toList=L.take k++x.toList :: L.drop k:=by
  rw[qX hL y r (fun h=>(p h).1),eI];intro i;rcases KP k L.length with h1 | h1
  ·rw[gq h1,<-mL h1] at i
   exact(p (by omega)).2 (by simpa using i)
  ·rw[J2 h1] at i
   simp at i
 have t:(bX L x.toList).map encStr=[]++(L.take k).map encStr++[U x]++(L.drop k).map encStr:=by rw[e];simp[Bb]
 have z:0+k+1+(n - k)=(bX L x.toList).length:=by rw[e];simp;omega
 rw[z,<-t] at h;have u:0<(bX L x.toList).length:=by omega
 obtain⟨g,c,rfl⟩:=gv h u;refine⟨g,0,_,c,rfl,rfl,?_,uS h⟩;rcases h.2 with ⟨o,h0⟩ | ⟨g',cap,cur,o,hb,hg,hc1,hc2,hc3,hc4⟩
 ·simp at o
 ·simp only[I5] at o
  obtain⟨-,-,rfl⟩:=o;omega
theorem mM (b off n cap:Nat)(L:List (List UInt8))(x:ByteArray)(w:H)(hL:n=L.length)(hn:(n:Int)<=1048576)(ZA:(n:Int)<=cap)(hR:RowStr w b off n (nmF L)):Calls Tryz.prog 56 #[Y (N (T b off Z)) n cap,U x] w fun e W=>∃ E m A l:Nat,e=.returned (Y (N (T E m Z)) A l)/\A=(bX L x.toList).length/\(A:Int)<=l/\RowStr W E m A (nmF (bX L x.toList))/\Below w.heap.size w W:=by
 obtain⟨D,hi,s,r,q⟩:=JV Ek;have z:=ae hR;have o:=ae hL;clear hR hL;go_enter Tryz.func56,Tryz.ntmps56;go_wp2;go_loop [5] (fun i=>∃ k:Nat,k<=n/\i=.int .i64 k/\Hid (∀ j,j<k->(nmF L j).toList<x.toList)) (fun i=>n - (intOf i).toNat);case atStart=>exact⟨0,by omega,rfl,fun j QW=>absurd QW (JP _)⟩
 case round =>
  obtain⟨k,Q9,rfl,K⟩:=hrel;have hkc:(k:Int)<=cap:=by omega
  by_cases M:k<n
  ·have hck:=z.out.2 k M
   cases hb:Op.bytesLess (nmF L k).toList x.toList with
   | true =>
    go_wp2
    exact⟨⟨k+1,by omega,by go_num,fun j QW=>by
     by_cases e:j=k
     ·subst e;rw[bytesLess_eq] at hb;exact J8 hb
     ·exact K.out j (by omega)⟩,by simp[intOf];omega⟩
   | false =>
    have QZ:¬ (nmF L k).toList<x.toList:=by rw[bytesLess_eq] at hb;exact QK hb
    have F:=ae QZ;clear QZ;cases he:((nmF L k).toList == x.toList) with
    | true =>have X:=ae (yZ o.out M K.out F.out (by simpa using he));go_wp2;go_ret;exact⟨b,off,n,cap,rfl,by rw[X.out];exact o.out,by omega,by rw[X.out];exact z.out,eL _ _⟩
    | false =>
     have Q0:=ae (show k<n->¬ (nmF L k).toList<x.toList/\(nmF L k).toList≠x.toList from fun _=>⟨F.out,by simpa using he⟩);clear F;have B:=ae (vU w 9 1);have C:=ae ((q9 w).alloc ly (.cells #[] 9));have G:=ae (oD (z.out.below C.out ly) o.out 0 k);go_wp2_with (at_builtin;refine wC _ rfl (.tmp 34) (.tmp 37) 35 rfl w.heap.size 9 D (U ⟨#[]⟩) 1 16 Tryz.underlying35 hi s r q rfl (by decide) (Y (N (T w.heap.size 0 Z)) 0 0) 0 [] (by simp[Act.eval]) B.out (T b off Z) k cap ((L.take k).map encStr) (by simp[Act.eval]) (by have:=o.out;first | (simp;done) | (simp;omega)) (by simpa using G.out) (nB _) (by unfold maxLen;omega) (by omega) (by simp) ?_;intro Q2 t f c g;have p:=ae f;have y:=ae (bg C.out c (by simp) (fun j e=>(B.out.lt j e).1));clear f c g G B C);have R1:=ae (z.out.below y.out ly);have z1:=y.out.size
     go_region_law (first
      | (refine dn rfl (.tmp 39) (.tmp 41) 35 rfl w.heap.size 9 D (U ⟨#[]⟩) 1 16 Tryz.underlying35 hi s r q rfl (by decide) Q2 (0+k) ([]++(L.take k).map encStr) (by simp[Act.eval]) (by first | exact p.out.alloc _ | exact p.out.drew.alloc _ | exact p.out.drew.drew.alloc _) (T t.heap.size 0 Z) 1 1 [U x] (by simp[Act.eval]) rfl (by first | exact dW t _ _ | exact dW t.drew _ _ | exact dW t.drew.drew _ _) (by simp[Value.oneCell']) (by unfold maxLen;omega) (by omega) (by simp<;>omega) ?_;intro R w2 f c g;have ZB:=ae f;(first | have u:=ae (bg (y.out.alloc z1 _) c (by simp<;>omega) (fun j e=>(p.out.lt j e).1)) | have u:=ae (bg (y.out.drew.alloc (by simpa using z1) _) c (by simp<;>omega) (fun j e=>(p.out.lt j e).1)));have O:=ae (z.out.below u.out ly);have P:=ae (qW O.out o.out k Q9 ZA);have z2:=u.out.size;clear f c g)
      | (refine dn rfl (.tmp 42) (.tmp 45) 35 rfl w.heap.size 9 D (U ⟨#[]⟩) 1 16 Tryz.underlying35 hi s r q rfl (by decide) R (0+k+1) ([]++(L.take k).map encStr++[U x]) (by simp[Act.eval]) ZB.out ⟨b,off+if cap=k then 0 else k,Z⟩ (n - k) (cap - k) (((L.drop k).take (n - k)).map encStr) (by by_cases h:cap=k<;>simp[Act.eval,h]) (by have:=o.out;first | (simp;done) | (simp;omega)) P.out (nB _) (by unfold maxLen;omega) (by omega) z2 ?_;intro QX w3 f c g;have QY:=ae f;have V:=ae (bg u.out c z2 (fun j e=>(ZB.out.lt j e).1));clear f c g))
     all_goals go_wp2
     all_goals
      obtain⟨E,m,A,l,rfl,h1,h2,S⟩:=sU QY.out o.out Q9 K.out Q0.out;go_ret;exact⟨E,m,A,l,rfl,h1,by omega,S,V.out⟩
  ·obtain rfl:k=n:=by omega
   have Q0:=ae (show k<k->¬ (nmF L k).toList<x.toList/\(nmF L k).toList≠x.toList from fun h=>absurd h (Nat.lt_irrefl _));have B:=ae (vU w 9 1);have C:=ae ((q9 w).alloc ly (.cells #[] 9));have G:=ae (oD (z.out.below C.out ly) o.out 0 k);go_wp2_with (at_builtin;refine wC _ rfl (.tmp 34) (.tmp 37) 35 rfl w.heap.size 9 D (U ⟨#[]⟩) 1 16 Tryz.underlying35 hi s r q rfl (by decide) (Y (N (T w.heap.size 0 Z)) 0 0) 0 [] (by simp[Act.eval]) B.out (T b off Z) k cap ((L.take k).map encStr) (by simp[Act.eval]) (by have:=o.out;first | (simp;done) | (simp;omega)) (by simpa using G.out) (nB _) (by unfold maxLen;omega) (by omega) (by simp) ?_;intro Q2 t f c g;have p:=ae f;have y:=ae (bg C.out c (by simp) (fun j e=>(B.out.lt j e).1));clear f c g G B C);have R1:=ae (z.out.below y.out ly);have z1:=y.out.size
   go_region_law (first
    | (refine dn rfl (.tmp 39) (.tmp 41) 35 rfl w.heap.size 9 D (U ⟨#[]⟩) 1 16 Tryz.underlying35 hi s r q rfl (by decide) Q2 (0+k) ([]++(L.take k).map encStr) (by simp[Act.eval]) (by first | exact p.out.alloc _ | exact p.out.drew.alloc _ | exact p.out.drew.drew.alloc _) (T t.heap.size 0 Z) 1 1 [U x] (by simp[Act.eval]) rfl (by first | exact dW t _ _ | exact dW t.drew _ _ | exact dW t.drew.drew _ _) (by simp[Value.oneCell']) (by unfold maxLen;omega) (by omega) (by simp<;>omega) ?_;intro R w2 f c g;have ZB:=ae f;(first | have u:=ae (bg (y.out.alloc z1 _) c (by simp<;>omega) (fun j e=>(p.out.lt j e).1)) | have u:=ae (bg (y.out.drew.alloc (by simpa using z1) _) c (by simp<;>omega) (fun j e=>(p.out.lt j e).1)));have O:=ae (z.out.below u.out ly);have P:=ae (qW O.out o.out k Q9 ZA);have z2:=u.out.size;clear f c g)
    | (refine dn rfl (.tmp 42) (.tmp 45) 35 rfl w.heap.size 9 D (U ⟨#[]⟩) 1 16 Tryz.underlying35 hi s r q rfl (by decide) R (0+k+1) ([]++(L.take k).map encStr++[U x]) (by simp[Act.eval]) ZB.out ⟨b,off+if cap=k then 0 else k,Z⟩ (k - k) (cap - k) (((L.drop k).take (k - k)).map encStr) (by by_cases h:cap=k<;>simp[Act.eval,h]) (by have:=o.out;first | (simp;done) | (simp;omega)) P.out (nB _) (by unfold maxLen;omega) (by omega) z2 ?_;intro QX w3 f c g;have QY:=ae f;have V:=ae (bg u.out c z2 (fun j e=>(ZB.out.lt j e).1));clear f c g))
   all_goals go_wp2
   all_goals
    obtain⟨E,m,A,l,rfl,h1,h2,S⟩:=sU QY.out o.out Q9 K.out Q0.out;go_ret;exact⟨E,m,A,l,rfl,h1,by omega,S,V.out⟩
def FD (f:Nat->aj):Nat->List (List UInt8)
 | 0=>[]
 | k+1=>if (f k).kind=1 then bX (FD f k) (f k).name.toList else FD f k
def gN (acc:List (List UInt8))(g:Nat->Link):Nat->List (List UInt8)
 | 0=>acc
 | j+1=>bX (gN acc g j) (g j).name.toList
theorem Bc {acc:List (List UInt8)}(h:acc.Pairwise (· < ·))(g:Nat->Link)(j:Nat):(gN acc g j).Pairwise (· < ·):=by
 induction j with
 | zero=>exact h
 | succ j b=>exact oB b _
theorem sV (acc:List (List UInt8))(g:Nat->Link)(j:Nat):(gN acc g j).length<=acc.length+j:=by
 induction j with
 | zero=>exact j5 _
 | succ j ih =>have:=oC (gN acc g j) (g j).name.toList;rw[gN];omega
def cL (f:Nat->aj):Nat->List (List UInt8)
 | 0=>[]
 | k+1=>gN (bX (cL f k) (f k).name.toList) (f k).links (f k).linksN
theorem qY (f:Nat->aj)(k:Nat):(cL f k).Pairwise (· < ·):=by
 induction k with
 | zero=>exact List.Pairwise.nil
 | succ k b=>exact Bc (oB b _) _ _
theorem mN {f:Nat->aj}{k:Nat}(h:∀ p,p<k->(f p).linksN<=200):(cL f k).length<=k*201:=by
 induction k with
 | zero=>exact j5 _
 | succ k b =>have h1:=b fun p hp=>h p (by omega);have h2:=sV (bX (cL f k) (f k).name.toList) (f k).links (f k).linksN;have h3:=oC (cL f k) (f k).name.toList;have h4:=h k (by omega);rw[cL];omega
def sW (f:Nat->aj)(n:Nat):List (List UInt8):=if aZ f n=QR then cL f n else []
theorem Bd (acc:List (List UInt8))(g:Nat->Link)(j:Nat)(z:List UInt8):z∈gN acc g j ↔ z∈acc∨∃ i,i<j/\(g i).name.toList=z:=by
 induction j with
 | zero=>simp[gN]
 | succ j b =>
  rw[gN,fD,b];constructor
  ·rintro((h | ⟨i,hi,h⟩) | h)
   ·exact .inl h
   ·exact .inr ⟨i,by omega,h⟩
   ·exact .inr ⟨j,by omega,h.symm⟩
  ·rintro(h | ⟨i,hi,h⟩)
   ·exact .inl (.inl h)
   ·by_cases e:i=j
    ·subst e;exact .inr h.symm
    ·exact .inl (.inr ⟨i,by omega,h⟩)
theorem zb (f:Nat->aj)(k:Nat)(z:List UInt8):z∈cL f k ↔ ∃ i,i<k/\((f i).name.toList=z∨∃ j,j<(f i).linksN/\((f i).links j).name.toList=z):=by
 induction k with
 | zero=>simp[cL]
 | succ k b =>
  rw[cL,Bd,fD,b];constructor
  ·rintro((⟨i,hi,h⟩ | h) | ⟨j,hj,h⟩)
   ·exact⟨i,by omega,h⟩
   ·exact⟨k,by omega,.inl h.symm⟩
   ·exact⟨k,by omega,.inr ⟨j,hj,h⟩⟩
  ·rintro⟨i,hi,h⟩
   by_cases e:i=k
   ·subst e
    rcases h with h | h
    ·exact .inl (.inr h.symm)
    ·exact .inr h
   ·exact .inl (.inl ⟨i,by omega,h⟩)
end Go.Proofs.YtamacmnikdejeaaGreatDoor.Vp
namespace Go.Proofs.YtamacmnikdejeaaGreatDoor.Vp
open RowKit
structure Tl where
 kind:Int
 text:ByteArray
 actN:Nat
 act:Nat->Ins
def lB:Nat->Ins:=fun _=>⟨0,⟨#[]⟩,0⟩
def dY (x:aj):Tl:=⟨x.kind,if x.kind=1 then x.text else ⟨#[]⟩,x.actN,x.act⟩
def dZ (l:Link):Tl:=⟨if l.has=QR then 4 else 5,⟨#[]⟩,0,lB⟩
def cD (g:Nat->Link)(nm:List UInt8):Nat->List Tl
 | 0=>[]
 | j+1=>cD g nm j++(if (g j).name.toList=nm/\(g j).ask=false then [dZ (g j)] else [])
def aJ (f:Nat->aj)(nm:List UInt8):Nat->List Tl
 | 0=>[]
 | k+1=>aJ f nm k++(if (f k).name.toList=nm then [dY (f k)] else [])++cD (f k).links nm (f k).linksN
def de (x:Tl):Bool:=x.kind == 1 || x.kind == 3 || x.kind == 4
def cy (x y:Tl):Bool:=if de x != de y then false else if decide (3<x.kind) || decide (3<y.kind) || !de x then QR else x.kind == y.kind && x.text.toList == y.text.toList && bu x.act y.act x.actN y.actN
def gO (b c:List Tl):Bool:=b.any fun x=>c.any fun y=>!cy x y
def eC (f:Nat->aj)(n:Nat)(g:Nat->aj)(m:Nat)(nm:List UInt8):Bool:=gO (aJ f nm n) (aJ g nm m)
def dd (f:Nat->aj)(n:Nat)(g:Nat->aj)(m:Nat):List (List UInt8):=if aZ f n=QR/\aZ g m=QR then (cL f n).filter (eC f n g m) else []
theorem xt (g:Nat->Link)(nm:List UInt8)(j:Nat):(cD g nm j).length<=j:=by
 induction j with
 | zero=>exact j5 _
 | succ j ih =>
  rw[cD,a8];split
  ·simp;omega
  ·simp;omega
theorem kq {f:Nat->aj}{nm:List UInt8}{k:Nat}(h:∀ p,p<k->(f p).linksN<=200):(aJ f nm k).length<=k*201:=by
 induction k with
 | zero=>exact j5 _
 | succ k b =>
  have h1:=b fun p hp=>h p (by omega);have h2:=xt (f k).links nm (f k).linksN;have h3:=h k (by omega);rw[aJ,a8,a8];split
  ·simp;omega
  ·simp;omega
theorem sX (f:Nat->aj)(n:Nat)(g:Nat->aj)(m:Nat):(dd f n g m).Pairwise (· < ·):=by
 unfold dd;split
 ·exact(qY f n).filter _
 ·exact List.Pairwise.nil
theorem sY (f:Nat->aj)(n:Nat)(g:Nat->aj)(m:Nat):(dd f n g m).length<=1048576:=by
 unfold dd;split
 ·rename_i h
  have h1:=dX h.1;have h2:=mN (f:=f) (k:=n) (cZ h.1);have h3:=MK (eC f n g m) (cL f n);omega
 ·simp
theorem zc {l:List (List UInt8)}{x:List UInt8}(h:∀ y∈l,y<x):bX l x=l++[x]:=by
 induction l with
 | nil=>rfl
 | cons y ys b =>rw[bX,gA (h y (by simp)),b fun z hz=>h z (by simp[hz])];rfl
theorem xu {l:List (List UInt8)}{x:List UInt8}(h:∀ y∈l,y<x):bX (l++[x]) x=l++[x]:=by
 induction l with
 | nil =>
  show bX [x] x=[x]
  rw[bX,eI (MX x),gA rfl]
 | cons y b c =>show bX (y :: (b++[x])) x=_;rw[bX,gA (h y (by simp)),c fun z hz=>h z (by simp[hz])];rfl
def gi (b:Bool)(l:List (List UInt8))(x:List UInt8):List (List UInt8):=if b=QR then l++[x] else l
theorem ze {b:Bool}{l:List (List UInt8)}{x:List UInt8}(h:∀ y∈l,y<x):bX (gi b l x) x=gi QR l x:=by
 unfold gi;cases b with
 | true=>rw[gA rfl,xu h]
 | false=>rw[eI (by simp),zc h,gA rfl]
def fN (q:List UInt8->Bool)(L:List (List UInt8))(i:Nat):List (List UInt8):=(L.take i).filter q
theorem xv {q:List UInt8->Bool}{L:List (List UInt8)}{i:Nat}(h:i<L.length):fN q L (i+1)=gi (q L[i]) (fN q L i) L[i]:=by
 unfold fN gi;rw[List.take_succ_eq_append_getElem h,M5];cases hq:q L[i] with
 | true=>simp[hq]
 | false=>simp[hq]
theorem Be {q:List UInt8->Bool}{L:List (List UInt8)}(hL:L.Pairwise (· < ·)){i:Nat}(h:i<L.length):∀ y∈fN q L i,y<L[i]:=by
 intro y b;have b:y∈L.take i:=(MN.1 b).1;obtain⟨j,f,rfl⟩:=NP.1 b;have c:j<i:=by simp at f;omega
 rw[List.getElem_take];exact DC.1 hL j i (by omega) h c
theorem zi (q:List UInt8->Bool)(L:List (List UInt8)):fN q L L.length=L.filter q:=by unfold fN;rw[List.take_length]
theorem zj (q:List UInt8->Bool)(L:List (List UInt8))(i:Nat):(fN q L i).length<=L.length:=by
 unfold fN;have h1:=MK q (L.take i);have h2:(L.take i).length<=L.length:=by rw[JY];omega
 omega
theorem any_take_succ {b:Type}{p:b->Bool}{l:List b}{i:Nat}(h:i<l.length):(l.take (i+1)).any p=((l.take i).any p || p l[i]):=by rw[List.take_succ_eq_append_getElem h,List.any_append];simp
theorem zk {b ys:List Tl}{k:Nat}(c:k<b.length):gO (b.take (k+1)) ys=(gO (b.take k) ys || ys.any fun y=>!cy b[k] y):=any_take_succ c
end Go.Proofs.YtamacmnikdejeaaGreatDoor.Vp
