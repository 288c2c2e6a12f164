import Derived.Test.YtkdimgejdocbbaaGreatDoorZL
import Derived.Sort.Walk0
import Derived.Sort.EncStr
set_option maxRecDepth 100000
set_option maxHeartbeats 4000000
open Go.Addr renaming mk->J
open Go.Value renaming slice->Y,string->U
open Option renaming none->Z,some->Q
open Go renaming World->E
namespace Go.Proofs.YtkdimgejdocbbaaGreatDoor.Vp
open RowKit
def da:List (List UInt8)->List UInt8->List (List UInt8)
 | [],x=>[x]
 | y :: ys,x=>if y<x then y :: da ys x else if y=x then y :: ys else x :: y :: ys
theorem rJ (l:List (List UInt8))(x z:List UInt8):z∈da l x ↔ z∈l∨z=x:=by
 induction l with
 | nil=>simp[da]
 | cons y ys b =>
  rw[da];split
  ·rw[BC,b,BC,or_assoc]
  ·split
   ·rename_i e
    subst e;simp only[BC];constructor
    ·exact fun h=>.inl h
    ·rintro(h | h)
     ·exact h
     ·exact .inl h
   ·simp only[BC]
    constructor
    ·rintro(h | h | h)
     ·exact .inr h
     ·exact .inl (.inl h)
     ·exact .inl (.inr h)
    ·rintro((h | h) | h)
     ·exact .inr (.inl h)
     ·exact .inr (.inr h)
     ·exact .inl h
theorem uF:∀ (l:List (List UInt8)) (x:List UInt8) (k:Nat),k<=l.length->(∀ j (h:j<l.length),j<k->l[j]<x)->(∀ h:k<l.length,¬ l[k]<x)->da l x=if l[k]?=Q x then l else l.take k++x :: l.drop k
 | [],x,k,hk,_,_=>by simp at hk;subst hk;simp[da]
 | y :: ys,x,0,hk,h1,h2=>by have:=h2 (by simp);simp only[List.getElem_cons_zero] at this;rw[da,a8 this];simp
 | y :: ys,x,k+1,hk,h1,h2=>by have b:=h1 0 (by simp) (by omega);simp only[List.getElem_cons_zero] at b;rw[da,eT b,uF ys x k (by simpa using hk) (fun j h hj=>by have:=h1 (j+1) (by simpa using h) (by omega);simpa using this) (fun h=>by have:=h2 (by simpa using h);simpa using this)];simp only[List.getElem?_cons_succ,List.take_succ_cons,List.drop_succ_cons];split<;>rfl
theorem mZ (l:List (List UInt8))(x:List UInt8):(da l x).length<=l.length+1:=by
 induction l with
 | nil=>simp[da]
 | cons y ys ih =>
  rw[da];split
  ·simp only[o3];omega
  ·split<;>simp
end Go.Proofs.YtkdimgejdocbbaaGreatDoor.Vp
namespace Go.Proofs.YtkdimgejdocbbaaGreatDoor.Vp
open RowKit Go.Sort
def nmF (L:List (List UInt8))(j:Nat):ByteArray:=⟨(L.getD j []).toArray⟩
theorem jM {L:List (List UInt8)}{j:Nat}(h:j<L.length):(nmF L j).toList=L[j]:=by simp[nmF,H7,List.getD,h]
theorem uG {L:List (List UInt8)}{j:Nat}(h:j<L.length):Value.string (nmF L j)=encStr L[j]:=by simp[nmF,List.getD,h]
theorem zI (x:ByteArray):(⟨x.toList.toArray⟩:ByteArray)=x:=by rw[H7]
theorem tO {w:E}{f g c:Nat}{L:List (List UInt8)}(h:w.ownsRow f 9 1 (Y (Q (J g 0 Z)) L.length c) L.length (L.map encStr)):RowStr w g 0 L.length (nmF L):=by
 rcases h.2 with ⟨b,h0⟩ | ⟨g',cap,d,b,hb,j,hc1,hc2,hc3,k⟩
 ·simp at b
 ·simp only[CN,EQ,KJ] at b
  obtain⟨⟨rfl,-⟩,-,rfl⟩:=b;have l:g<w.heap.size:=by
   rcases IW g w.heap.size with h1 | h1
   ·exact h1
   ·rw[JE h1] at j;simp at j
  refine⟨l,fun i hi=>?_⟩;have n:w.cell? (J g (0+i) Z)=d[i]?:=by simp[World.cell?,j]
  have m:(d.toList.take (L.length*1))[i]?=(L.map encStr)[i]?:=by rw[k]
  rw[NF,eT (by omega),IN,ID,gq hi] at m;rw[n,m,uG hi];rfl
theorem nd {w:E}{b off n:Nat}{L:List (List UInt8)}(hR:RowStr w b off n (nmF L))(hn:n=L.length)(k m:Nat):∀ j u,(((L.drop k).take m).map encStr)[j]?=Q u->w.cell? (((J b (off+k) Z):Addr).add j)=Q u:=by
 intro j u d;rw[ID,NF] at d;split at d
 ·rw[NG] at d
  rcases IW (k+j) L.length with h1 | h1
  ·rw[gq h1] at d
   have:=hR.2 (k+j) (by omega);rw[uG h1] at this;rw[Addr.add_lit,LE,this];simpa using d
  ·rw[IP h1] at d
   simp at d
 ·simp at d
theorem pK {w:E}{b off n d:Nat}{L:List (List UInt8)}(hR:RowStr w b off n (nmF L))(g:n=L.length)(k:Nat)(hk:k<=n)(hc:(n:Int)<=d):∀ j u,(((L.drop k).take (n - k)).map encStr)[j]?=Q u->w.cell? ((⟨b,off+if d=k then 0 else k,Z⟩:Addr).add j)=Q u:=by
 by_cases h:d=k
 ·have:n - k=0:=by omega
  rw[this];intro j u f;simp at f
 ·rw[a8 h]
  exact nd hR g k (n - k)
theorem my (l:List (List UInt8)):∀ u∈l.map encStr,u.oneCell'=true:=by intro u b;obtain⟨x,-,rfl⟩:=IC.1 b;rfl
theorem Cu:(Tryz.prog.info? 9).map (fun i=>(i.zero,i.size,i.bytes))=Q (Q (U ⟨#[]⟩),1,16):=by kernel_rfl
theorem pL {L:List (List UInt8)}{x:List UInt8}{n k:Nat}(hL:n=L.length)(hk:k<=n)(d:∀ j,j<k->(nmF L j).toList<x)(b:k<n->¬ (nmF L k).toList<x):da L x=if L[k]?=Q x then L else L.take k++x :: L.drop k :=
 uF L x k (by omega) (fun j h f=>by rw[<-jM h];exact d j f) (fun h=>by rw[<-jM h];exact b (by omega))
theorem xS {L:List (List UInt8)}{x:List UInt8}{n k:Nat}(hL:n=L.length)(g:k<n)(f:∀ j,j<k->(nmF L j).toList<x)(d:¬ (nmF L k).toList<x)(h:(nmF L k).toList=x):da L x=L:=by
 have b:k<L.length:=by omega
 rw[pL hL (J9 g) f (fun _=>d),eT];rw[gq b,<-jM b,h]
theorem rK {w:E}{p n k:Nat}{v:Value}{L:List (List UInt8)}{x:ByteArray}(h:w.ownsRow p 9 1 v (0+k+1+(n - k)) ([]++(L.take k).map encStr++[U x]++((L.drop k).take (n - k)).map encStr))(hL:n=L.length)(s:k<=n)
  (r:∀ j,j<k->(nmF L j).toList<x.toList) (o:k<n->¬ (nmF L k).toList<x.toList/\(nmF L k).toList≠x.toList) :
  ∃ q d f b:Nat,v=Y (Q (J q d Z)) f b/\f=(da L x.toList).length/\(f:Int)<=b/\RowStr w q d f (nmF (da L x.toList)):=by
 rw[IY (l:=L.drop k) (by simp;omega)] at h;have e:da L x.toList=L.take k++x.toList :: L.drop k:=by
  rw[pL hL s r (fun h=>(o h).1),a8];intro i;rcases IW k L.length with h1 | h1
  ·rw[gq h1,<-jM h1] at i
   exact(o (by omega)).2 (by simpa using i)
  ·rw[IP h1] at i
   simp at i
 have u:(da L x.toList).map encStr=[]++(L.take k).map encStr++[U x]++(L.drop k).map encStr:=by rw[e];simp[zI]
 have t:0+k+1+(n - k)=(da L x.toList).length:=by rw[e];simp;omega
 rw[t,<-u] at h;have y:0<(da L x.toList).length:=by omega
 obtain⟨g,c,rfl⟩:=gw h y;refine⟨g,0,_,c,rfl,rfl,?_,tO h⟩;rcases h.2 with ⟨m,h0⟩ | ⟨g',cap,cur,m,hb,hg,hc1,hc2,hc3,hc4⟩
 ·simp at m
 ·simp only[CN] at m
  obtain⟨-,-,rfl⟩:=m;omega
theorem pM (b off n l:Nat)(L:List (List UInt8))(x:ByteArray)(w:E)(hL:n=L.length)(hn:(n:Int)<=1048576)(H:(n:Int)<=l)(hR:RowStr w b off n (nmF L)):Calls Tryz.prog 108 #[Y (Q (J b off Z)) n l,U x] w fun e w'=>∃ QP o B m:Nat,e=.returned (Y (Q (J QP o Z)) B m)/\B=(da L x.toList).length/\(B:Int)<=m/\RowStr w' QP o B (nmF (da L x.toList))/\Below w.heap.size w w':=by
 obtain⟨G,hi,t,s,r⟩:=IQ Cu;have A:=ae hR;have p:=ae hL;clear hR hL;go_enter Tryz.func108,Tryz.ntmps108;go_wp2;go_loop [5] (fun i=>∃ k:Nat,k<=n/\i=.int .i64 k/\Hid (∀ j,j<k->(nmF L j).toList<x.toList)) (fun i=>n - (intOf i).toNat);case atStart=>exact⟨0,by omega,rfl,fun j QG=>absurd QG (CS _)⟩
 case round =>
  obtain⟨k,QM,rfl,M⟩:=hrel;have hkc:(k:Int)<=l:=by omega
  by_cases P:k<n
  ·have hck:=A.out.2 k P
   cases hb:Op.bytesLess (nmF L k).toList x.toList with
   | true =>
    go_wp2
    exact⟨⟨k+1,by omega,by go_num,fun j QG=>by
     by_cases e:j=k
     ·subst e;rw[bytesLess_eq] at hb;exact IU hb
     ·exact M.out j (by omega)⟩,by simp[intOf];omega⟩
   | false =>
    have O:¬ (nmF L k).toList<x.toList:=by rw[bytesLess_eq] at hb;exact LH hb
    have QN:=ae O;clear O;cases he:((nmF L k).toList == x.toList) with
    | true =>have QH:=ae (xS p.out P M.out QN.out (by simpa using he));go_wp2;go_ret;exact⟨b,off,n,l,rfl,by rw[QH.out];exact p.out,by omega,by rw[QH.out];exact A.out,eI _ _⟩
    | false =>
     have QJ:=ae (show k<n->¬ (nmF L k).toList<x.toList/\(nmF L k).toList≠x.toList from fun _=>⟨QN.out,by simpa using he⟩);clear QN;have QQ:=ae (uD w 9 1);have C:=ae ((Qs w).alloc lr (.cells #[] 9));have K:=ae (nd (A.out.below C.out lr) p.out 0 k);go_wp2_with (at_builtin;refine CL _ rfl (.tmp 34) (.tmp 37) 39 rfl w.heap.size 9 G (U ⟨#[]⟩) 1 16 Tryz.underlying39 hi t s r rfl (by decide) (Y (Q (J w.heap.size 0 Z)) 0 0) 0 [] (by simp[Act.eval]) QQ.out (J b off Z) k l ((L.take k).map encStr) (by simp[Act.eval]) (by have:=p.out;first | (simp;done) | (simp;omega)) (by simpa using K.out) (my _) (by unfold maxLen;omega) (by omega) (by simp) ?_;intro V z f d g;have q:=ae f;have y:=ae (bg C.out d (by simp) (fun j e=>(QQ.out.lt j e).1));clear f d g K QQ C);have R1:=ae (A.out.below y.out lr);have z1:=y.out.size
     go_region_law (first
      | (refine cZ rfl (.tmp 39) (.tmp 41) 39 rfl w.heap.size 9 G (U ⟨#[]⟩) 1 16 Tryz.underlying39 hi t s r rfl (by decide) V (0+k) ([]++(L.take k).map encStr) (by simp[Act.eval]) (by first | exact q.out.alloc _ | exact q.out.drew.alloc _ | exact q.out.drew.drew.alloc _) (J z.heap.size 0 Z) 1 1 [U x] (by simp[Act.eval]) rfl (by first | exact dh z _ _ | exact dh z.drew _ _ | exact dh z.drew.drew _ _) (by simp[Value.oneCell']) (by unfold maxLen;omega) (by omega) (by simp<;>omega) ?_;intro S w2 f d g;have QO:=ae f;(first | have u:=ae (bg (y.out.alloc z1 _) d (by simp<;>omega) (fun j e=>(q.out.lt j e).1)) | have u:=ae (bg (y.out.drew.alloc (by simpa using z1) _) d (by simp<;>omega) (fun j e=>(q.out.lt j e).1)));have W:=ae (A.out.below u.out lr);have QK:=ae (pK W.out p.out k QM H);have z2:=u.out.size;clear f d g)
      | (refine cZ rfl (.tmp 42) (.tmp 45) 39 rfl w.heap.size 9 G (U ⟨#[]⟩) 1 16 Tryz.underlying39 hi t s r rfl (by decide) S (0+k+1) ([]++(L.take k).map encStr++[U x]) (by simp[Act.eval]) QO.out ⟨b,off+if l=k then 0 else k,Z⟩ (n - k) (l - k) (((L.drop k).take (n - k)).map encStr) (by by_cases h:l=k<;>simp[Act.eval,h]) (by have:=p.out;first | (simp;done) | (simp;omega)) QK.out (my _) (by unfold maxLen;omega) (by omega) z2 ?_;intro v3 w3 f d g;have X:=ae f;have QL:=ae (bg u.out d z2 (fun j e=>(QO.out.lt j e).1));clear f d g))
     all_goals go_wp2
     all_goals
      obtain⟨QP,o,B,m,rfl,h1,h2,R⟩:=rK X.out p.out QM M.out QJ.out;go_ret;exact⟨QP,o,B,m,rfl,h1,by omega,R,QL.out⟩
  ·obtain rfl:k=n:=by omega
   have QJ:=ae (show k<k->¬ (nmF L k).toList<x.toList/\(nmF L k).toList≠x.toList from fun h=>absurd h (Nat.lt_irrefl _));have QQ:=ae (uD w 9 1);have C:=ae ((Qs w).alloc lr (.cells #[] 9));have K:=ae (nd (A.out.below C.out lr) p.out 0 k);go_wp2_with (at_builtin;refine CL _ rfl (.tmp 34) (.tmp 37) 39 rfl w.heap.size 9 G (U ⟨#[]⟩) 1 16 Tryz.underlying39 hi t s r rfl (by decide) (Y (Q (J w.heap.size 0 Z)) 0 0) 0 [] (by simp[Act.eval]) QQ.out (J b off Z) k l ((L.take k).map encStr) (by simp[Act.eval]) (by have:=p.out;first | (simp;done) | (simp;omega)) (by simpa using K.out) (my _) (by unfold maxLen;omega) (by omega) (by simp) ?_;intro V z f d g;have q:=ae f;have y:=ae (bg C.out d (by simp) (fun j e=>(QQ.out.lt j e).1));clear f d g K QQ C);have R1:=ae (A.out.below y.out lr);have z1:=y.out.size
   go_region_law (first
    | (refine cZ rfl (.tmp 39) (.tmp 41) 39 rfl w.heap.size 9 G (U ⟨#[]⟩) 1 16 Tryz.underlying39 hi t s r rfl (by decide) V (0+k) ([]++(L.take k).map encStr) (by simp[Act.eval]) (by first | exact q.out.alloc _ | exact q.out.drew.alloc _ | exact q.out.drew.drew.alloc _) (J z.heap.size 0 Z) 1 1 [U x] (by simp[Act.eval]) rfl (by first | exact dh z _ _ | exact dh z.drew _ _ | exact dh z.drew.drew _ _) (by simp[Value.oneCell']) (by unfold maxLen;omega) (by omega) (by simp<;>omega) ?_;intro S w2 f d g;have QO:=ae f;(first | have u:=ae (bg (y.out.alloc z1 _) d (by simp<;>omega) (fun j e=>(q.out.lt j e).1)) | have u:=ae (bg (y.out.drew.alloc (by simpa using z1) _) d (by simp<;>omega) (fun j e=>(q.out.lt j e).1)));have W:=ae (A.out.below u.out lr);have QK:=ae (pK W.out p.out k QM H);have z2:=u.out.size;clear f d g)
    | (refine cZ rfl (.tmp 42) (.tmp 45) 39 rfl w.heap.size 9 G (U ⟨#[]⟩) 1 16 Tryz.underlying39 hi t s r rfl (by decide) S (0+k+1) ([]++(L.take k).map encStr++[U x]) (by simp[Act.eval]) QO.out ⟨b,off+if l=k then 0 else k,Z⟩ (k - k) (l - k) (((L.drop k).take (k - k)).map encStr) (by by_cases h:l=k<;>simp[Act.eval,h]) (by have:=p.out;first | (simp;done) | (simp;omega)) QK.out (my _) (by unfold maxLen;omega) (by omega) z2 ?_;intro v3 w3 f d g;have X:=ae f;have QL:=ae (bg u.out d z2 (fun j e=>(QO.out.lt j e).1));clear f d g))
   all_goals go_wp2
   all_goals
    obtain⟨QP,o,B,m,rfl,h1,h2,R⟩:=rK X.out p.out QM M.out QJ.out;go_ret;exact⟨QP,o,B,m,rfl,h1,by omega,R,QL.out⟩
def Ef (f:Nat->aj):Nat->List (List UInt8)
 | 0=>[]
 | k+1=>if (f k).kind=1 then da (Ef f k) (f k).name.toList else Ef f k
def iV (b:List (List UInt8))(g:Nat->Link):Nat->List (List UInt8)
 | 0=>b
 | j+1=>da (iV b g j) (g j).name.toList
theorem rL (b:List (List UInt8))(g:Nat->Link)(j:Nat):(iV b g j).length<=b.length+j:=by
 induction j with
 | zero=>exact j6 _
 | succ j ih =>have:=mZ (iV b g j) (g j).name.toList;rw[iV];omega
def dv (f:Nat->aj):Nat->List (List UInt8)
 | 0=>[]
 | k+1=>iV (da (dv f k) (f k).name.toList) (f k).links (f k).linksN
theorem pN {f:Nat->aj}{k:Nat}(h:∀ p,p<k->(f p).linksN<=200):(dv f k).length<=k*201:=by
 induction k with
 | zero=>exact j6 _
 | succ k b =>have h1:=b fun p hp=>h p (by omega);have h2:=rL (da (dv f k) (f k).name.toList) (f k).links (f k).linksN;have h3:=mZ (dv f k) (f k).name.toList;have h4:=h k (by omega);rw[dv];omega
def iW (f:Nat->aj)(n:Nat):List (List UInt8):=if aX f n=true then dv f n else []
theorem zJ (f:Nat->aj)(n:Nat):(iW f n).length<=1048576:=by
 unfold iW;split
 ·rename_i h
  have h1:=dU h;have h2:=pN (f:=f) (k:=n) (gP h);omega
 ·simp
theorem zK (b:List (List UInt8))(g:Nat->Link)(j:Nat)(z:List UInt8):z∈iV b g j ↔ z∈b∨∃ i,i<j/\(g i).name.toList=z:=by
 induction j with
 | zero=>simp[iV]
 | succ j d =>
  rw[iV,rJ,d];constructor
  ·rintro((h | ⟨i,hi,h⟩) | h)
   ·exact .inl h
   ·exact .inr ⟨i,by omega,h⟩
   ·exact .inr ⟨j,by omega,h.symm⟩
  ·rintro(h | ⟨i,hi,h⟩)
   ·exact .inl (.inl h)
   ·by_cases e:i=j
    ·subst e;exact .inr h.symm
    ·exact .inl (.inr ⟨i,by omega,h⟩)
theorem xU (f:Nat->aj)(k:Nat)(z:List UInt8):z∈dv f k ↔ ∃ i,i<k/\((f i).name.toList=z∨∃ j,j<(f i).linksN/\((f i).links j).name.toList=z):=by
 induction k with
 | zero=>simp[dv]
 | succ k b =>
  rw[dv,zK,rJ,b];constructor
  ·rintro((⟨i,hi,h⟩ | h) | ⟨j,hj,h⟩)
   ·exact⟨i,by omega,h⟩
   ·exact⟨k,by omega,.inl h.symm⟩
   ·exact⟨k,by omega,.inr ⟨j,hj,h⟩⟩
  ·rintro⟨i,hi,h⟩
   by_cases e:i=k
   ·subst e
    rcases h with h | h
    ·exact .inl (.inr h.symm)
    ·exact .inr h
   ·exact .inl (.inl ⟨i,by omega,h⟩)
end Go.Proofs.YtkdimgejdocbbaaGreatDoor.Vp
