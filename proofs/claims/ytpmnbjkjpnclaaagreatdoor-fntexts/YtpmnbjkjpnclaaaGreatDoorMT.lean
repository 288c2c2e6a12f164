import Derived.Test.YtpmnbjkjpnclaaaGreatDoorMM
import Derived.Sort.Walk0
import Derived.Sort.EncStr
set_option maxRecDepth 100000
set_option maxHeartbeats 4000000
set_option linter.unusedSimpArgs false
open Go renaming Addr.mk->N,Value.slice->Y,Value.string->U,World->M
open Option renaming none->Z,some->T
namespace Go.Proofs.YtpmnbjkjpnclaaaGreatDoor.Vp
open RowKit
variable {L l:List (List UInt8)}{n j b off:Nat}{w:M}{x:List UInt8}
def cY:List (List UInt8)->List UInt8->List (List UInt8)
 |[],x=>[x]
 |y::ys,x=>if y<x then y::cY ys x else if y=x then y::ys else x::y::ys
theorem jN (l:List (List UInt8))(x z:List UInt8):z∈cY l x ↔ z∈l∨z=x:=by
 induction l with
 |nil=>simp[cY]
 |cons y ys b =>
  rw[cY];split;{rw[BO,b,BO,or_assoc]};{split;{rename_i e;subst e;simp only[BO];constructor;{exact λh=>.inl h};{rintro(h|h);{exact h};{exact .inl h}}};{simp only[BO];constructor;{rintro(h|h|h);{exact .inr h};{exact .inl (.inl h)};{exact .inl (.inr h)}};{rintro((h|h)|h);{exact .inr (.inl h)};{exact .inr (.inr h)};{exact .inl h}}}}
theorem nW{y:List UInt8}(h1:¬ y<x)(h2:y≠x):x<y:=by
 rcases List.le_total x y with h|h;{exact MU λb=>h2 (List.le_antisymm b h)};{exact MU λb=>h2 (List.le_antisymm h h1)}
theorem zE (h:l.Pairwise (· < ·))(x:List UInt8):(cY l x).Pairwise (· < ·):=by
 induction l with
 |nil=>simp[cY]
 |cons y ys i =>
  obtain⟨h1,h2⟩:=LM.1 h;rw[cY];split;{rename_i f;refine LM.2 ⟨λz hz=>?_,i h2⟩;rcases(jN _ _ _).1 hz with hz|rfl;{exact h1 z hz};{exact f}};{split;{exact h};{rename_i hn g;have b:=nW hn g;refine LM.2 ⟨λz hz=>?_,h⟩;rcases BO.1 hz with rfl|hz;{exact b};{exact List.lt_trans b (h1 z hz)}}}
theorem uO:∀{l m:List (List UInt8)},l.Pairwise (· < ·)->m.Pairwise (· < ·)->(∀z,z∈l ↔ z∈m)->l=m
 |[],[],_,_,_=>rfl
 |[],y::ys,_,_,h=>by have:=(h y).2 (by simp);simp at this
 |x::xs,[],_,_,h=>by have:=(h x).1 (by simp);simp at this
 |x::xs,y::ys,h1,h2,h=>by
  obtain⟨a1,j⟩:=LM.1 h1;obtain⟨i,n⟩:=LM.1 h2;have g:x=y:=by
   rcases BO.1 ((h x).1 (by simp)) with e|e
   ·exact e
   ·rcases BO.1 ((h y).2 (by simp)) with f|f
    ·exact f.symm
    ·exact absurd (List.lt_trans (i x e) (a1 y f)) (QB _)
  subst g;congr 1;refine uO j n λz=>?_;have hz:=h z;simp only[BO] at hz;constructor
  ·intro b
   rcases hz.1 (.inr b) with e|e
   ·subst e;exact absurd (a1 _ b) (QB _)
   ·exact e
  ·intro b
   rcases hz.2 (.inr b) with e|e
   ·subst e;exact absurd (i _ b) (QB _)
   ·exact e
theorem zF{f:List (List UInt8)}(h:f.Nodup):(f.mergeSort (λx y=>decide (x<=y))).Pairwise (· < ·):=by
 have j:(f.mergeSort (λx y=>decide (x<=y))).Pairwise (λx y=>decide (x<=y)=true) :=
  List.pairwise_mergeSort (λa b c g i=>by simp only[xT] at *;exact List.le_trans g i) (λa b=>by simp only[Bool.or_eq_true,xT];exact List.le_total a b) f
 have hn:(f.mergeSort (λx y=>decide (x<=y))).Nodup:=(List.mergeSort_perm f _).nodup_iff.2 h;refine(j.and hn).imp ?_;rintro a b ⟨h1,h2⟩;exact nW (by simpa using h1) (Ne.symm h2)
theorem CG{b:List (List UInt8)}(h:b.Nodup)(g:l.Pairwise (· < ·))(f:∀z,z∈b ↔ z∈l):b.mergeSort (λx y=>decide (x<=y))=l :=
 uO (zF h) g λz=>by rw[<-f z];exact(List.mergeSort_perm b _).mem_iff
theorem uP:∀(l:List (List UInt8)) (x:List UInt8) (k:Nat),k<=l.length->(∀j (h:j<l.length),j<k->l[j]<x)->(∀h:k<l.length,¬ l[k]<x)->cY l x=if l[k]?=T x then l else l.take k++x::l.drop k
 |[],x,k,hk,_,_=>by simp at hk;subst hk;simp[cY]
 |y::ys,x,0,hk,h1,h2=>by have:=h2 (by simp);simp only[List.getElem_cons_zero] at this;rw[cY,eT this];simp
 |y::ys,x,k+1,hk,h1,h2=>by have b:=h1 0 (by simp) (by omega);simp only[List.getElem_cons_zero] at b;rw[cY,nL b,uP ys x k (by simpa using hk) (λj h hj=>by have:=h1 (j+1) (by simpa using h) (by omega);simpa using this) (λh=>by have:=h2 (by simpa using h);simpa using this)];simp only[PU,List.take_succ_cons,List.drop_succ_cons];split<;>rfl
theorem zG (l:List (List UInt8))(x:List UInt8):(cY l x).length<=l.length+1:=by
 induction l with
 |nil=>simp[cY]
 |cons y ys ih =>
  rw[cY];split;{simp only[BG];omega};{split<;>simp}
open Go.Sort
def nmF (L:List (List UInt8))(j:Nat):ByteArray:=⟨(L.getD j []).toArray⟩
theorem kO (h:j<L.length):(nmF L j).toList=L[j]:=by simp[nmF,JO,List.getD,h]
theorem oZ (h:j<L.length):Value.string (nmF L j)=encStr L[j]:=by simp[nmF,List.getD,h]
theorem zH (x:ByteArray):(⟨x.toList.toArray⟩:ByteArray)=x:=by rw[JO]
theorem tU{l g c:Nat}(h:w.ownsRow l 9 1 (Y (T (N g 0 Z)) L.length c) L.length (L.map encStr)):RowStr w g 0 L.length (nmF L):=by
 rcases h.2 with ⟨b,h0⟩|⟨g',cap,f,b,hb,j,hc1,hc2,hc3,m⟩
 {simp at b}
 ·simp only[JG,JE,MK] at b;obtain⟨⟨rfl,-⟩,-,rfl⟩:=b;have n:g<w.heap.size:=by
   rcases J7 g w.heap.size with h1|h1;{exact h1};{rw[LA h1] at j;simp at j}
  refine⟨n,λi hi=>?_⟩;have p:w.cell? (N g (0+i) Z)=f[i]?:=by simp[World.cell?,j]
  have o:(f.toList.take (L.length*1))[i]?=(L.map encStr)[i]?:=by rw[m]
  rw[NI,nL (by omega),JQ,JM,gq hi] at o;rw[p,o,oZ hi];rfl
theorem mK (hR:RowStr w b off n (nmF L))(hn:n=L.length)(k m:Nat):∀j u,(((L.drop k).take m).map encStr)[j]?=T u->w.cell? (((N b (off+k) Z):Addr).add j)=T u:=by
 intro j u f;rw[JM,NI] at f;split at f;{rw[TA] at f;rcases J7 (k+j) L.length with h1|h1;{rw[gq h1] at f;have:=hR.2 (k+j) (by omega);rw[oZ h1] at this;rw[Addr.add_lit,Nat.add_assoc,this];simpa using f};{rw[JR h1] at f;simp at f}};{simp at f}
theorem pQ{cap:Nat}(hR:RowStr w b off n (nmF L))(hn:n=L.length)(k:Nat)(hk:k<=n)(hc:(n:Int)<=cap):∀j u,(((L.drop k).take (n - k)).map encStr)[j]?=T u->w.cell? ((⟨b,off+if cap=k then 0 else k,Z⟩:Addr).add j)=T u:=by
 by_cases h:cap=k
 ·have:n - k=0:=by omega
  rw[this];intro j u f;simp at f
 {rw[eT h];exact mK hR hn k (n - k)}
theorem lR (l:List (List UInt8)):∀u∈l.map encStr,u.oneCell'=true:=by intro u b;obtain⟨x,-,rfl⟩:=KH.1 b;rfl
theorem CH:(Tryz.prog.info? 9).map (λi=>(i.zero,i.size,i.bytes))=T (T (U ⟨#[]⟩),1,16):=by kernel_rfl
theorem pR{k:Nat}(hL:n=L.length)(hk:k<=n)(b:∀j,j<k->(nmF L j).toList<x)(f:k<n->¬ (nmF L k).toList<x):cY L x=if L[k]?=T x then L else L.take k++x::L.drop k :=
 uP L x k (by omega) (λj h g=>by rw[<-kO h];exact b j g) (λh=>by rw[<-kO h];exact f (by omega))
theorem xR{k:Nat}(hL:n=L.length)(h:k<n)(f:∀j,j<k->(nmF L j).toList<x)(g:¬ (nmF L k).toList<x)(i:(nmF L k).toList=x):cY L x=L:=by
 have b:k<L.length:=by omega
 rw[pR hL (NH h) f (λ_=>g),nL];rw[gq b,<-kO b,i]
theorem rH{q k:Nat}{v:Value}{x:ByteArray}(h:w.ownsRow q 9 1 v (0+k+1+(n - k)) ([]++(L.take k).map encStr++[U x]++((L.drop k).take (n - k)).map encStr))(hL:n=L.length)(t:k<=n)
  (r:∀j,j<k->(nmF L j).toList<x.toList) (p:k<n->¬ (nmF L k).toList<x.toList/\(nmF L k).toList≠x.toList) :
  ∃s f m b:Nat,v=Y (T (N s f Z)) m b/\m=(cY L x.toList).length/\(m:Int)<=b/\RowStr w s f m (nmF (cY L x.toList)):=by
 rw[KI (l:=L.drop k) (by simp;omega)] at h;have e:cY L x.toList=L.take k++x.toList::L.drop k:=by
  rw[pR hL t r (λh=>(p h).1),eT];intro i;rcases J7 k L.length with h1|h1;{rw[gq h1,<-kO h1] at i;exact(p (by omega)).2 (by simpa using i)};{rw[JR h1] at i;simp at i}
 have z:(cY L x.toList).map encStr=[]++(L.take k).map encStr++[U x]++(L.drop k).map encStr:=by rw[e];simp[zH]
 have y:0+k+1+(n - k)=(cY L x.toList).length:=by rw[e];simp;omega
 rw[y,<-z] at h;have u:0<(cY L x.toList).length:=by omega
 obtain⟨g,c,rfl⟩:=fY h u;refine⟨g,0,_,c,rfl,rfl,?_,tU h⟩;rcases h.2 with ⟨o,h0⟩|⟨g',cap,cur,o,hb,hg,hc1,hc2,hc3,hc4⟩
 {simp at o};{simp only[JG] at o;obtain⟨-,-,rfl⟩:=o;omega}
theorem pS (b off n cap:Nat)(L:List (List UInt8))(x:ByteArray)(w:M)(hL:n=L.length)(hn:(n:Int)<=1048576)(H:(n:Int)<=cap)(hR:RowStr w b off n (nmF L)):Calls Tryz.prog 47 #[Y (T (N b off Z)) n cap,U x] w λe w'=>∃G m B o:Nat,e=.returned (Y (T (N G m Z)) B o)/\B=(cY L x.toList).length/\(B:Int)<=o/\RowStr w' G m B (nmF (cY L x.toList))/\Below w.heap.size w w':=by
 obtain⟨E,hi,t,s,r⟩:=JT CH;have A:=ae hR;have p:=ae hL;clear hR hL;go_enter Tryz.func47,Tryz.ntmps47;go_wp2;go_loop [5] (λi=>∃k:Nat,k<=n/\i=.int .i64 k/\Hid (∀j,j<k->(nmF L j).toList<x.toList)) (λi=>n - (intOf i).toNat);case atStart=>exact⟨0,by omega,rfl,λj ZJ=>absurd ZJ (JI _)⟩
 case round =>
  obtain⟨k,ZQ,rfl,ZM⟩:=hrel;have hkc:(k:Int)<=cap:=by omega
  by_cases P:k<n
  ·have hck:=A.out.2 k P;cases hb:Op.bytesLess (nmF L k).toList x.toList with
   |true =>
    go_wp2
    exact⟨⟨k+1,by omega,by go_num,λj ZJ=>by
     by_cases e:j=k;{subst e;rw[bytesLess_eq] at hb;exact KP hb}
     ·exact ZM.out j (by omega)⟩,by simp[intOf];omega⟩
   |false =>
    have O:¬ (nmF L k).toList<x.toList:=by rw[bytesLess_eq] at hb;exact PK hb
    have K:=ae O;clear O;cases he:((nmF L k).toList == x.toList) with
    |true =>have ZI:=ae (xR p.out P ZM.out K.out (by simpa using he));go_wp2;go_ret;exact⟨b,off,n,cap,rfl,by rw[ZI.out];exact p.out,by omega,by rw[ZI.out];exact A.out,cM _ _⟩
    |false =>
     have V:=ae (show k<n->¬ (nmF L k).toList<x.toList/\(nmF L k).toList≠x.toList from λ_=>⟨K.out,by simpa using he⟩);clear K;have D:=ae (lP w 9 1);have C:=ae ((BS w).alloc ly (.cells #[] 9));have ZP:=ae (mK (A.out.aa C.out ly) p.out 0 k);go_wp2_with (at_builtin;refine IS _ rfl (.tmp 34) (.tmp 37) 30 rfl w.heap.size 9 E (U ⟨#[]⟩) 1 16 JD hi t s r rfl (by decide) (Y (T (N w.heap.size 0 Z)) 0 0) 0 [] (by simp[Act.eval]) D.out (N b off Z) k cap ((L.take k).map encStr) (by simp[Act.eval]) (by have:=p.out;first|(simp;done)|(simp;omega)) (by simpa using ZP.out) (lR _) (by unfold maxLen;omega) (by omega) (by simp) ?_;intro W u g f l;have q:=ae g;have y:=ae (bg C.out f (by simp) (λj e=>(D.out.lt j e).1));clear g f l ZP D C);have R1:=ae (A.out.aa y.out ly);have z1:=y.out.size
     go_region_law (first
      |(refine cD rfl (.tmp 39) (.tmp 41) 30 rfl w.heap.size 9 E (U ⟨#[]⟩) 1 16 JD hi t s r rfl (by decide) W (0+k) ([]++(L.take k).map encStr) (by simp[Act.eval]) (by first|exact q.out.alloc _|exact q.out.drew.alloc _|exact q.out.drew.drew.alloc _) (N u.heap.size 0 Z) 1 1 [U x] (by simp[Act.eval]) rfl (by first|exact cT u _ _|exact cT u.drew _ _|exact cT u.drew.drew _ _) (by simp[Value.oneCell']) (by unfold maxLen;omega) (by omega) (by simp<;>omega) ?_;intro R w2 g f l;have ZO:=ae g;(first|have z:=ae (bg (y.out.alloc z1 _) f (by simp<;>omega) (λj e=>(q.out.lt j e).1))|have z:=ae (bg (y.out.drew.alloc (by simpa using z1) _) f (by simp<;>omega) (λj e=>(q.out.lt j e).1)));have S:=ae (A.out.aa z.out ly);have ZN:=ae (pQ S.out p.out k ZQ H);have z2:=z.out.size;clear g f l)
      |(refine cD rfl (.tmp 42) (.tmp 45) 30 rfl w.heap.size 9 E (U ⟨#[]⟩) 1 16 JD hi t s r rfl (by decide) R (0+k+1) ([]++(L.take k).map encStr++[U x]) (by simp[Act.eval]) ZO.out ⟨b,off+if cap=k then 0 else k,Z⟩ (n - k) (cap - k) (((L.drop k).take (n - k)).map encStr) (by by_cases h:cap=k<;>simp[Act.eval,h]) (by have:=p.out;first|(simp;done)|(simp;omega)) ZN.out (lR _) (by unfold maxLen;omega) (by omega) z2 ?_;intro v3 w3 g f l;have X:=ae g;have ZL:=ae (bg z.out f z2 (λj e=>(ZO.out.lt j e).1));clear g f l))
     all_goals go_wp2
     all_goals
      obtain⟨G,m,B,o,rfl,h1,h2,ZK⟩:=rH X.out p.out ZQ ZM.out V.out;go_ret;exact⟨G,m,B,o,rfl,h1,by omega,ZK,ZL.out⟩
  ·obtain rfl:k=n:=by omega
   have V:=ae (show k<k->¬ (nmF L k).toList<x.toList/\(nmF L k).toList≠x.toList from λh=>absurd h (Nat.lt_irrefl _));have D:=ae (lP w 9 1);have C:=ae ((BS w).alloc ly (.cells #[] 9));have ZP:=ae (mK (A.out.aa C.out ly) p.out 0 k);go_wp2_with (at_builtin;refine IS _ rfl (.tmp 34) (.tmp 37) 30 rfl w.heap.size 9 E (U ⟨#[]⟩) 1 16 JD hi t s r rfl (by decide) (Y (T (N w.heap.size 0 Z)) 0 0) 0 [] (by simp[Act.eval]) D.out (N b off Z) k cap ((L.take k).map encStr) (by simp[Act.eval]) (by have:=p.out;first|(simp;done)|(simp;omega)) (by simpa using ZP.out) (lR _) (by unfold maxLen;omega) (by omega) (by simp) ?_;intro W u g f l;have q:=ae g;have y:=ae (bg C.out f (by simp) (λj e=>(D.out.lt j e).1));clear g f l ZP D C);have R1:=ae (A.out.aa y.out ly);have z1:=y.out.size
   go_region_law (first
    |(refine cD rfl (.tmp 39) (.tmp 41) 30 rfl w.heap.size 9 E (U ⟨#[]⟩) 1 16 JD hi t s r rfl (by decide) W (0+k) ([]++(L.take k).map encStr) (by simp[Act.eval]) (by first|exact q.out.alloc _|exact q.out.drew.alloc _|exact q.out.drew.drew.alloc _) (N u.heap.size 0 Z) 1 1 [U x] (by simp[Act.eval]) rfl (by first|exact cT u _ _|exact cT u.drew _ _|exact cT u.drew.drew _ _) (by simp[Value.oneCell']) (by unfold maxLen;omega) (by omega) (by simp<;>omega) ?_;intro R w2 g f l;have ZO:=ae g;(first|have z:=ae (bg (y.out.alloc z1 _) f (by simp<;>omega) (λj e=>(q.out.lt j e).1))|have z:=ae (bg (y.out.drew.alloc (by simpa using z1) _) f (by simp<;>omega) (λj e=>(q.out.lt j e).1)));have S:=ae (A.out.aa z.out ly);have ZN:=ae (pQ S.out p.out k ZQ H);have z2:=z.out.size;clear g f l)
    |(refine cD rfl (.tmp 42) (.tmp 45) 30 rfl w.heap.size 9 E (U ⟨#[]⟩) 1 16 JD hi t s r rfl (by decide) R (0+k+1) ([]++(L.take k).map encStr++[U x]) (by simp[Act.eval]) ZO.out ⟨b,off+if cap=k then 0 else k,Z⟩ (k - k) (cap - k) (((L.drop k).take (k - k)).map encStr) (by by_cases h:cap=k<;>simp[Act.eval,h]) (by have:=p.out;first|(simp;done)|(simp;omega)) ZN.out (lR _) (by unfold maxLen;omega) (by omega) z2 ?_;intro v3 w3 g f l;have X:=ae g;have ZL:=ae (bg z.out f z2 (λj e=>(ZO.out.lt j e).1));clear g f l))
   all_goals go_wp2
   all_goals
    obtain⟨G,m,B,o,rfl,h1,h2,ZK⟩:=rH X.out p.out ZQ ZM.out V.out;go_ret;exact⟨G,m,B,o,rfl,h1,by omega,ZK,ZL.out⟩
