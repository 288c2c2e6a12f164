import Derived.Test.YthkgkfehliinfaaGreatDoorFJ
import Derived.Shelf.SlIter.Nil
import Derived.Shelf.SortM.Plain
import Derived.Shelf.SortM.SortNone
import Derived.Ground.GgzProg
import Derived.Ground.SlgmProg
import Derived.Sort.Walk0
import Derived.Sort.EncStr
set_option linter.all false
set_option maxRecDepth 100000
set_option maxHeartbeats 4000000
open Go renaming Addr.mk->Q,Value.slice->Y,Obj.cells->N,IntKind.i64->I,World->E,Value->ZB,Ending.returned->ZI,World.heap->U,World.alloc->ZU,Proofs.Tryz.prog->Pg
open Option renaming none->Z,some->T
open Bool renaming false->ZA,true->ZH
open Array renaming size->J
open List renaming length->A
namespace Go.Proofs.YthkgkfehliinfaaGreatDoor.Vp
open RowKit
def cQ:List (List UInt8)->List UInt8->List (List UInt8)
 |[],x=>[x]
 |y::ys,x=>if y<x then y::cQ ys x else if y=x then y::ys else x::y::ys
def lX (l:List (List UInt8))(x z:List UInt8):z∈cQ l x ↔ z∈l\/z=x:=by
 induction l with
 |nil=>simp[cQ]
 |cons y ys b =>
  rw[cQ];split;{rw[vG,b,vG,or_assoc]};{split;{rename_i e;subst e;simp only[vG];constructor;{exact λh=>.inl h};{rintro(h|h);{exact h};{exact .inl h}}};{simp only[vG];constructor;{rintro(h|h|h);{exact .inr h};{exact .inl (.inl h)};{exact .inl (.inr h)}};{rintro((h|h)|h);{exact .inr (.inl h)};{exact .inr (.inr h)};{exact .inl h}}}}
def qB {x y:List UInt8}(h1:¬ y<x)(h2:y≠x):x<y:=by
 rcases List.le_total x y with h|h;{exact PU λb=>h2 (List.le_antisymm b h)};{exact PU λb=>h2 (List.le_antisymm h h1)}
def uT {l:List (List UInt8)}(h:l.Pairwise (· < ·))(x:List UInt8):(cQ l x).Pairwise (· < ·):=by
 induction l with
 |nil=>simp[cQ]
 |cons y ys g =>
  obtain⟨h1,h2⟩:=P9.1 h;rw[cQ];split;{rename_i f;refine P9.2 ⟨λz hz=>?_,g h2⟩;rcases(lX _ _ _).1 hz with hz|rfl;{exact h1 z hz};{exact f}};{split;{exact h};{rename_i hn i;have b:=qB hn i;refine P9.2 ⟨λz hz=>?_,h⟩;rcases vG.1 hz with rfl|hz;{exact b};{exact List.lt_trans b (h1 z hz)}}}
def xZ:∀{l m:List (List UInt8)},l.Pairwise (· < ·)->m.Pairwise (· < ·)->(∀z,z∈l ↔ z∈m)->l=m
 |[],[],_,_,_=>rfl
 |[],y::ys,_,_,h=>by have:=(h y).2 (by simp);simp at this
 |x::xs,[],_,_,h=>by have:=(h x).1 (by simp);simp at this
 |x::xs,y::ys,h1,h2,h=>by
  obtain⟨a1,j⟩:=P9.1 h1;obtain⟨g,n⟩:=P9.1 h2;have i:x=y:=by
   rcases vG.1 ((h x).1 (by simp)) with e|e
   ·exact e
   ·rcases vG.1 ((h y).2 (by simp)) with f|f
    ·exact f.c
    ·exact absurd (List.lt_trans (g x e) (a1 y f)) (VQ _)
  subst i;congr 1;refine xZ j n λz=>?_;have hz:=h z;simp only[vG] at hz;constructor
  ·intro b
   rcases hz.1 (.inr b) with e|e
   ·subst e;exact absurd (a1 _ b) (VQ _)
   ·exact e
  ·intro b
   rcases hz.2 (.inr b) with e|e
   ·subst e;exact absurd (g _ b) (VQ _)
   ·exact e
def Ez {f:List (List UInt8)}(h:f.Nodup):(f.mergeSort (λx y=>decide (x<=y))).Pairwise (· < ·):=by
 have j:(f.mergeSort (λx y=>decide (x<=y))).Pairwise (λx y=>decide (x<=y)=ZH):=
  List.pairwise_mergeSort (λa b c i g=>by simp only[nD] at *;exact List.le_trans i g) (λa b=>by simp only[Bool.or_eq_true,nD];exact List.le_total a b) f
 have hn:(f.mergeSort (λx y=>decide (x<=y))).Nodup:=(List.mergeSort_perm f _).nodup_iff.2 h;refine(j.and hn).imp ?_;rintro a b⟨h1,h2⟩;exact qB (by simpa using h1) (Ne.symm h2)
def Hg {b l:List (List UInt8)}(h:b.Nodup)(f:l.Pairwise (· < ·))(g:∀z,z∈b ↔ z∈l):b.mergeSort (λx y=>decide (x<=y))=l:=
 xZ (Ez h) f λz=>by rw[<-g z];exact(List.mergeSort_perm b _).mem_iff
def x7:∀(l:List (List UInt8)) (x:List UInt8) (k:Nat),k<=A l->(∀j (h:j<A l),j<k->l[j]<x)->(∀h:k<A l,¬ l[k]<x)->cQ l x=if l[k]?=T x then l else l.take k++x::l.drop k
 |[],x,k,hk,_,_=>by simp at hk;subst hk;simp[cQ]
 |y::ys,x,0,hk,h1,h2=>by have:=h2 (by simp);simp only[List.getElem_cons_zero] at this;rw[cQ,eI this];simp
 |y::ys,x,k+1,hk,h1,h2=>by have b:=h1 0 (by simp) (by omega);simp only[List.getElem_cons_zero] at b;rw[cQ,eT b,x7 ys x k (by simpa using hk) (λj h hj=>by have:=h1 (j+1) (by simpa using h) (by omega);simpa using this) (λh=>by have:=h2 (by simpa using h);simpa using this)];simp only[VH,List.take_succ_cons,List.drop_succ_cons];split<;>rfl
def pu (l:List (List UInt8))(x:List UInt8):(cQ l x).length<=A l+1:=by
 induction l with
 |nil=>simp[cQ]
 |cons y ys ih =>
  rw[cQ];split;{simp only[vF];omega};{split<;>simp}
open Go.Sort
def nmF (L:List (List UInt8))(j:Nat):F_:=⟨(L.getD j []).toArray⟩
def jQ {L:List (List UInt8)}{j:Nat}(h:j<A L):(nmF L j).toList=L[j]:=by simp[nmF,NM,List.getD,h]
def rG {L:List (List UInt8)}{j:Nat}(h:j<A L):Value.string (nmF L j)=encStr L[j]:=by simp[nmF,List.getD,h]
def EC (x:F_):(⟨x.toList.toArray⟩:F_)=x:=by rw[NM]
def xk {w:E}{l g c:Nat}{L:List (List UInt8)}(h:w.ownsRow l 9 1 (Y (T (Q g 0 Z)) (A L) c) (A L) (L.map encStr)):RowStr w g 0 (A L) (nmF L):=by
 rcases h.2 with⟨b,h0⟩|⟨g',j_,f,b,hb,j,hc1,hc2,hc3,o⟩
 {simp at b}
 ·simp only[IN,ND,RP] at b;obtain⟨⟨rfl,-⟩,-,rfl⟩:=b;have m:g<J (U w):=by
   rcases OT g (J (U w)) with h1|h1;{exact h1};{rw[PO h1] at j;simp at j}
  refine⟨m,λi hi=>?_⟩;have p:w.cell? (Q g (0+i) Z)=f[i]?:=by simp[World.cell?,j]
  have n:(f.toList.take (A L*1))[i]?=(L.map encStr)[i]?:=by rw[o]
  rw[TV,eT (by omega),NT,L8,gq hi] at n;rw[p,n,rG hi];rfl
def uU {w:E}{b off n:Nat}{L:List (List UInt8)}(hR:RowStr w b off n (nmF L))(hn:n=A L)(k m:Nat):∀j u,(((L.drop k).take m).map encStr)[j]?=T u->w.cell? (((Q b (off+k) Z):Addr).add j)=T u:=by
 intro j u f;rw[L8,TV] at f;split at f;{rw[YK] at f;rcases OT (k+j) (A L) with h1|h1;{rw[gq h1] at f;have:=hR.2 (k+j) (by omega);rw[rG h1] at this;rw[Addr.add_lit,U6,this];simpa using f};{rw[NU h1] at f;simp at f}};{simp at f}
def Bo {w:E}{b off n j_:Nat}{L:List (List UInt8)}(hR:RowStr w b off n (nmF L))(hn:n=A L)(k:Nat)(hk:k<=n)(hc:(n:Int)<=j_):∀j u,(((L.drop k).take (n - k)).map encStr)[j]?=T u->w.cell? ((⟨b,off+if j_=k then 0 else k,Z⟩:Addr).add j)=T u:=by
 by_cases h:j_=k
 ·have:n - k=0:=by omega
  rw[this];intro j u f;simp at f
 {rw[eI h];exact uU hR hn k (n - k)}
def x8 (l:List (List UInt8)):∀u∈l.map encStr,u.oneCell'=ZH:=by intro u b;obtain⟨x,-,rfl⟩:=NN.1 b;rfl
def Hh:(Pg.info? 9).map (λi=>(i.zero,i.size,i.bytes))=T (T (.string ⟨#[]⟩),1,16):=by kernel_rfl
def sH {L:List (List UInt8)}{x:List UInt8}{n k:Nat}(hL:n=A L)(hk:k<=n)(b:∀j,j<k->(nmF L j).toList<x)(f:k<n->¬ (nmF L k).toList<x):cQ L x=if L[k]?=T x then L else L.take k++x::L.drop k:=
 x7 L x k (by omega) (λj h g=>by rw[<-jQ h];exact b j g) (λh=>by rw[<-jQ h];exact f (by omega))
def Bp {L:List (List UInt8)}{x:List UInt8}{n k:Nat}(hL:n=A L)(h:k<n)(f:∀j,j<k->(nmF L j).toList<x)(g:¬ (nmF L k).toList<x)(i:(nmF L k).toList=x):cQ L x=L:=by
 have b:k<A L:=by omega
 rw[sH hL (TQ h) f (λ_=>g),eT];rw[gq b,<-jQ b,i]
def ED {w:E}{q n k:Nat}{v:ZB}{L:List (List UInt8)}{x:F_}(h:w.ownsRow q 9 1 v (0+k+1+(n - k)) ([]++(L.take k).map encStr++[.string x]++((L.drop k).take (n - k)).map encStr))(hL:n=A L)(u:k<=n)
  (s:∀j,j<k->(nmF L j).toList<x.toList) (p:k<n->¬ (nmF L k).toList<x.toList/\(nmF L k).toList≠x.toList) :
  ∃r b i f:Nat,v=Y (T (Q r b Z)) i f/\i=(cQ L x.toList).length/\(i:Int)<=f/\RowStr w r b i (nmF (cQ L x.toList)):=by
 rw[NV (l:=L.drop k) (by simp;omega)] at h;have e:cQ L x.toList=L.take k++x.toList::L.drop k:=by
  rw[sH hL u s (λh=>(p h).1),eI];intro m;rcases OT k (A L) with h1|h1;{rw[gq h1,<-jQ h1] at m;exact(p (by omega)).2 (by simpa using m)};{rw[NU h1] at m;simp at m}
 have z:(cQ L x.toList).map encStr=[]++(L.take k).map encStr++[.string x]++(L.drop k).map encStr:=by rw[e];simp[EC]
 have y:0+k+1+(n - k)=(cQ L x.toList).length:=by rw[e];simp;omega
 rw[y,<-z] at h;have t:0<(cQ L x.toList).length:=by omega
 obtain⟨g,c,rfl⟩:=iA h t;refine⟨g,0,_,c,rfl,rfl,?_,xk h⟩;rcases h.2 with⟨o,h0⟩|⟨g',j_,cur,o,hb,hg,hc1,hc2,hc3,hc4⟩
 {simp at o};{simp only[IN] at o;obtain⟨-,-,rfl⟩:=o;omega}
def sI (b off n j_:Nat)(L:List (List UInt8))(x:F_)(w:E)(hL:n=A L)(hn:(n:Int)<=1048576)(ZR:(n:Int)<=j_)(hR:RowStr w b off n (nmF L)):Calls Pg 46 #[Y (T (Q b off Z)) n j_,.string x] w λe ZP=>∃B o q m:Nat,e=ZI (Y (T (Q B o Z)) q m)/\q=(cQ L x.toList).length/\(q:Int)<=m/\RowStr ZP B o q (nmF (cQ L x.toList))/\Below (J (U w)) w ZP:=by
 obtain⟨M,hi,y,z,ZV⟩:=NP Hh;have t:=ae hR;have p:=ae hL;clear hR hL;go_enter Tryz.func46,Tryz.ntmps46;go_wp2;go_loop [5] (λi=>∃k:Nat,k<=n/\i=.int I k/\Hid (∀j,j<k->(nmF L j).toList<x.toList)) (λi=>n - (intOf i).toNat);case atStart=>exact⟨0,by omega,rfl,λj R=>absurd R (NF _)⟩
 case round =>
  obtain⟨k,ZO,rfl,K⟩:=hrel;have hkc:(k:Int)<=j_:=by omega
  by_cases u:k<n;rotate_left;focus
   have ZQ:=ae (show k<n->¬ (nmF L k).toList<x.toList/\(nmF L k).toList≠x.toList from λh=>absurd h u);have hge:¬ (k:Int)<n:=by omega
  rotate_left;focus
   have hck:=t.i.2 k u;by_cases hb:Op.bytesLess (nmF L k).toList x.toList=ZH
   ·go_wp2
    exact⟨⟨k+1,by omega,by go_num,λj R=>by
     by_cases e:j=k
     ·subst e;rw[bytesLess_eq] at hb;exact OU hb
     ·exact K.i j (by omega)⟩,by simp[intOf];omega⟩
   replace hb:Op.bytesLess (nmF L k).toList x.toList=ZA:=by simpa using hb
   have r:=ae (show ¬ (nmF L k).toList<x.toList by rw[bytesLess_eq] at hb;exact VB hb);by_cases ZT:((nmF L k).toList == x.toList)=ZH
   ·have O:=ae (Bp p.i u K.i r.i (by simpa using ZT))
    go_wp2;go_ret;exact⟨b,off,n,j_,rfl,by rw[O.i];exact p.i,by omega,by rw[O.i];exact t.i,a8 _ _⟩
   replace ZT:((nmF L k).toList == x.toList)=ZA:=by simpa using ZT
   have ZQ:=ae (show k<n->¬ (nmF L k).toList<x.toList/\(nmF L k).toList≠x.toList from λ_=>⟨r.i,by simpa using ZT⟩);clear r
  all_goals
   have H:=ae (xP w 9 1);have ZS:=ae ((BS w).alloc ly (N #[] 9));have P:=ae (uU (t.i.aa ZS.i ly) p.i 0 k);go_wp2_with (at_builtin;refine DN _ rfl (.tmp 34) (.tmp 37) 43 rfl (J (U w)) 9 M (.string ⟨#[]⟩) 1 16 NH hi y z ZV rfl (by decide) (Y (T (Q (J (U w)) 0 Z)) 0 0) 0 [] (by simp[Act.eval]) H.i (Q b off Z) k j_ ((L.take k).map encStr) (by simp[Act.eval]) (by have:=p.i;first|(simp;done)|(simp;omega)) (by simpa using P.i) (x8 _) (by unfold maxLen;omega) (by omega) (by simp) ?_;intro v1 D g f l;have s:=ae g;have G:=ae (bg ZS.i f (by simp) (λj e=>(H.i.lt j e).1));clear g f l P H ZS);have R1:=ae (t.i.aa G.i ly);have z1:=G.i.size
   go_region_law (first
    |(refine dR rfl (.tmp 39) (.tmp 41) 43 rfl (J (U w)) 9 M (.string ⟨#[]⟩) 1 16 NH hi y z ZV rfl (by decide) v1 (0+k) ([]++(L.take k).map encStr) (by simp[Act.eval]) (by first|exact s.i.alloc _|exact s.i.drew.alloc _|exact s.i.drew.drew.alloc _) (Q (J (U D)) 0 Z) 1 1 [.string x] (by simp[Act.eval]) rfl (by first|exact ep D _ _|exact ep D.drew _ _|exact ep D.drew.drew _ _) (by simp[Value.oneCell']) (by unfold maxLen;omega) (by omega) (by simp<;>omega) ?_;intro W w2 g f l;have S:=ae g;(first|have C:=ae (bg (G.i.alloc z1 _) f (by simp<;>omega) (λj e=>(s.i.lt j e).1))|have C:=ae (bg (G.i.drew.alloc (by simpa using z1) _) f (by simp<;>omega) (λj e=>(s.i.lt j e).1)));have V:=ae (t.i.aa C.i ly);have X:=ae (Bo V.i p.i k ZO ZR);have z2:=C.i.size;clear g f l)
    |(refine dR rfl (.tmp 42) (.tmp 45) 43 rfl (J (U w)) 9 M (.string ⟨#[]⟩) 1 16 NH hi y z ZV rfl (by decide) W (0+k+1) ([]++(L.take k).map encStr++[.string x]) (by simp[Act.eval]) S.i ⟨b,off+if j_=k then 0 else k,Z⟩ (n - k) (j_ - k) (((L.drop k).take (n - k)).map encStr) (by by_cases h:j_=k<;>simp[Act.eval,h]) (by have:=p.i;first|(simp;done)|(simp;omega)) X.i (x8 _) (by unfold maxLen;omega) (by omega) z2 ?_;intro v3 w3 g f l;have ZM:=ae g;have ZL:=ae (bg C.i f z2 (λj e=>(S.i.lt j e).1));clear g f l))
   all_goals go_wp2
   all_goals
    obtain⟨B,o,q,m,rfl,h1,h2,ZN⟩:=ED ZM.i p.i ZO K.i ZQ.i;go_ret;exact⟨B,o,q,m,rfl,h1,by omega,ZN,ZL.i⟩
def IQ (f:Nat->au):Nat->List (List UInt8)
 |0=>[]
 |k+1=>if (f k).m=1 then cQ (IQ f k) (f k).e.toList else IQ f k
def ik (acc:List (List UInt8))(g:Nat->Link):Nat->List (List UInt8)
 |0=>acc
 |j+1=>cQ (ik acc g j) (g j).e.toList
def EE {acc:List (List UInt8)}(h:acc.Pairwise (· < ·))(g:Nat->Link)(j:Nat):(ik acc g j).Pairwise (· < ·):=by
 induction j with
 |zero=>exact h
 |succ j b=>exact uT b _
def uV (acc:List (List UInt8))(g:Nat->Link)(j:Nat):(ik acc g j).length<=A acc+j:=by
 induction j with
 |zero=>exact p7 _
 |succ j ih =>have:=pu (ik acc g j) (g j).e.toList;rw[ik];omega
def cG (f:Nat->au):Nat->List (List UInt8)
 |0=>[]
 |k+1=>ik (cQ (cG f k) (f k).e.toList) (f k).l (f k).f
def Bq (f:Nat->au)(k:Nat):(cG f k).Pairwise (· < ·):=by
 induction k with
 |zero=>exact List.Pairwise.nil
 |succ k b=>exact EE (uT b _) _ _
def sJ {f:Nat->au}{k:Nat}(h:∀p,p<k->(f p).f<=200):(cG f k).length<=k*201:=by
 induction k with
 |zero=>exact p7 _
 |succ k b =>have h1:=b λp hp=>h p (by omega);have h2:=uV (cQ (cG f k) (f k).e.toList) (f k).l (f k).f;have h3:=pu (cG f k) (f k).e.toList;have h4:=h k (by omega);rw[cG];omega
def ip (f:Nat->au)(n:Nat):List (List UInt8):=if bc f n=ZH then cG f n else []
def uW (f:Nat->au)(n:Nat):(ip f n).length<=1048576:=by
 unfold ip;split;{rename_i h;have h1:=er h;have h2:=sJ (f:=f) (k:=n) (gj h);omega};{simp}
def EF (acc:List (List UInt8))(g:Nat->Link)(j:Nat)(z:List UInt8):z∈ik acc g j ↔ z∈acc\/∃i,i<j/\(g i).e.toList=z:=by
 induction j with
 |zero=>simp[ik]
 |succ j b =>
  rw[ik,lX,b];constructor;{rintro((h|⟨i,hi,h⟩)|h);{exact .inl h};{exact .inr ⟨i,by omega,h⟩};{exact .inr ⟨j,by omega,h.c⟩}};{rintro(h|⟨i,hi,h⟩);{exact .inl (.inl h)};{by_cases e:i=j;{subst e;exact .inr h.c};{exact .inl (.inr ⟨i,by omega,h⟩)}}}
def Br (f:Nat->au)(k:Nat)(z:List UInt8):z∈cG f k ↔ ∃i,i<k/\((f i).e.toList=z\/∃j,j<(f i).f/\((f i).l j).e.toList=z):=by
 induction k with
 |zero=>simp[cG]
 |succ k b =>
  rw[cG,EF,lX,b];constructor;{rintro((⟨i,hi,h⟩|h)|⟨j,hj,h⟩);{exact⟨i,by omega,h⟩};{exact⟨k,by omega,.inl h.c⟩};{exact⟨k,by omega,.inr ⟨j,hj,h⟩⟩}};{rintro⟨i,hi,h⟩;by_cases e:i=k;{subst e;rcases h with h|h;{exact .inl (.inr h.c)};{exact .inr h}};{exact .inl (.inl ⟨i,by omega,h⟩)}}
end Go.Proofs.YthkgkfehliinfaaGreatDoor.Vp
namespace Go.Proofs
open RowKit Go.Maps Go.Sort Go.Shelf
def Tryz.keys88_ren:Go.Shelf.Ren:=⟨λ|7=>88|10=>129|n=>n,λ|23=>84|26=>9|3=>144|28=>147|0=>0|27=>146|33=>88|4=>4|n=>n,λ|n=>n⟩
def Tryz.keys88:Go.Proofs.SlLaysZ.n7 Pg Tryz.keys88_ren:={
 mixed:=by kernel_rfl
 f7:=⟨Tryz.f88.name,by decide,Tryz.func88.k (congrArg T (by kernel_rfl))⟩
 f10:=⟨Tryz.f129.name,by decide,Tryz.func129.k (congrArg T (by kernel_rfl))⟩
 t0:=Tryz.underlying0
 a0:=Tryz.isAgg0
 z0:=Tryz.sizeOf0
 v0:=Tryz.zeroValue0
 t4:=Tryz.underlying4
 a4:=Tryz.isAgg4
 z4:=Tryz.sizeOf4
 v4:=Tryz.zeroValue4
 t23:=Tryz.underlying84
 a23:=Tryz.isAgg84
 z23:=Tryz.sizeOf84
 v23:=Tryz.zeroValue84
 t26:=Tryz.underlying9
 a26:=Tryz.isAgg9
 z26:=Tryz.sizeOf9
 v26:=Tryz.zeroValue9
 t27:=Tryz.underlying146
 a27:=Tryz.isAgg146
 z27:=Tryz.sizeOf146
 v27:=Tryz.zeroValue146
 t28:=Tryz.underlying147
 a28:=Tryz.isAgg147
 z28:=Tryz.sizeOf147
 v28:=Tryz.zeroValue147
 t33:=Tryz.underlying88
 a33:=Tryz.isAgg88
 z33:=Tryz.sizeOf88
 v33:=Tryz.zeroValue88 }
def Tryz.sorted87_ren:Go.Shelf.Ren:=⟨λ|6=>87|8=>127|9=>128|11=>163|13=>165|12=>164|23=>190|24=>191|14=>182|15=>183|16=>184|17=>185|18=>186|19=>187|20=>171|21=>188|22=>189|25=>200|26=>201|27=>202|28=>203|29=>204|30=>193|31=>209|n=>n,λ|26=>9|28=>147|24=>43|0=>0|3=>3|37=>233|48=>267|50=>269|4=>4|40=>261|39=>260|45=>182|5=>5|9=>9|51=>274|55=>278|57=>285|58=>33|33=>88|n=>n,λ|n=>n⟩
def Tryz.sorted87:Go.Proofs.SlLaysZ.n6 Pg Tryz.sorted87_ren:={
 mixed:=by kernel_rfl
 f6:=⟨Tryz.f87.name,by decide,Tryz.func87.k (congrArg T (by kernel_rfl))⟩
 f8:=⟨Tryz.f127.name,by decide,Tryz.func127.k (congrArg T (by kernel_rfl))⟩
 f11:=⟨Tryz.f163.name,by decide,Tryz.func163.k (congrArg T (by kernel_rfl))⟩
 t0:=Tryz.underlying0
 a0:=Tryz.isAgg0
 z0:=Tryz.sizeOf0
 v0:=Tryz.zeroValue0
 t24:=Tryz.underlying43
 a24:=Tryz.isAgg43
 z24:=Tryz.sizeOf43
 v24:=Tryz.zeroValue43
 t26:=Tryz.underlying9
 a26:=Tryz.isAgg9
 z26:=Tryz.sizeOf9
 v26:=Tryz.zeroValue9
 t28:=Tryz.underlying147
 a28:=Tryz.isAgg147
 z28:=Tryz.sizeOf147
 v28:=Tryz.zeroValue147
 i26:=by kernel_rfl }
def Tryz.sort128_ren:Go.Shelf.Ren:=⟨λ|6=>128|8=>165|9=>164|19=>190|20=>191|21=>182|22=>183|23=>184|24=>185|25=>186|26=>187|27=>171|28=>188|29=>189|36=>200|31=>201|32=>202|37=>203|38=>204|39=>193|41=>209|n=>n,λ|27=>43|29=>9|3=>3|32=>233|26=>43|0=>0|44=>267|46=>269|4=>4|36=>261|35=>260|41=>182|5=>5|9=>9|53=>274|57=>278|63=>285|64=>33|n=>n,λ|n=>n⟩
def Tryz.sort128:Go.Proofs.SlLaysM.n6 Pg Tryz.sort128_ren:={
 mixed:=by kernel_rfl
 f6:=⟨Tryz.f128.name,by decide,Tryz.func128.k (congrArg T (by kernel_rfl))⟩
 f8:=Tryz.func165.k (congrArg T (by kernel_rfl))
 f9:=⟨Tryz.f164.name,by decide,Tryz.func164.k (congrArg T (by kernel_rfl))⟩
 f19:=Tryz.func190.k (congrArg T (by kernel_rfl))
 f20:=Tryz.func191.k (congrArg T (by kernel_rfl))
 f21:=⟨Tryz.f182.name,by decide,Tryz.func182.k (congrArg T (by kernel_rfl))⟩
 f22:=⟨Tryz.f183.name,by decide,Tryz.func183.k (congrArg T (by kernel_rfl))⟩
 f23:=⟨Tryz.f184.name,by decide,Tryz.func184.k (congrArg T (by kernel_rfl))⟩
 f24:=⟨Tryz.f185.name,by decide,Tryz.func185.k (congrArg T (by kernel_rfl))⟩
 f25:=⟨Tryz.f186.name,by decide,Tryz.func186.k (congrArg T (by kernel_rfl))⟩
 f26:=⟨Tryz.f187.name,by decide,Tryz.func187.k (congrArg T (by kernel_rfl))⟩
 f27:=⟨Tryz.f171.name,by decide,Tryz.func171.k (congrArg T (by kernel_rfl))⟩
 f28:=⟨Tryz.f188.name,by decide,Tryz.func188.k (congrArg T (by kernel_rfl))⟩
 f29:=⟨Tryz.f189.name,by decide,Tryz.func189.k (congrArg T (by kernel_rfl))⟩
 f31:=Tryz.func201.k (congrArg T (by kernel_rfl))
 f32:=Tryz.func202.k (congrArg T (by kernel_rfl))
 f36:=⟨Tryz.f200.name,by decide,Tryz.func200.k (congrArg T (by kernel_rfl))⟩
 f37:=⟨Tryz.f203.name,by decide,Tryz.func203.k (congrArg T (by kernel_rfl))⟩
 f38:=⟨Tryz.f204.name,by decide,Tryz.func204.k (congrArg T (by kernel_rfl))⟩
 f39:=⟨Tryz.f193.name,by decide,Tryz.func193.k (congrArg T (by kernel_rfl))⟩
 f41:=⟨Tryz.f209.name,by decide,Tryz.func209.k (congrArg T (by kernel_rfl))⟩
 t0:=Tryz.underlying0
 a0:=Tryz.isAgg0
 z0:=Tryz.sizeOf0
 v0:=Tryz.zeroValue0
 t3:=Tryz.underlying3
 a3:=Tryz.isAgg3
 z3:=Tryz.sizeOf3
 v3:=Tryz.zeroValue3
 t4:=Tryz.underlying4
 a4:=Tryz.isAgg4
 z4:=Tryz.sizeOf4
 v4:=Tryz.zeroValue4
 t5:=Tryz.underlying5
 a5:=Tryz.isAgg5
 z5:=Tryz.sizeOf5
 v5:=Tryz.zeroValue5
 t9:=Tryz.underlying9
 a9:=Tryz.isAgg9
 z9:=Tryz.sizeOf9
 v9:=Tryz.zeroValue9
 t26:=Tryz.underlying43
 a26:=Tryz.isAgg43
 z26:=Tryz.sizeOf43
 v26:=Tryz.zeroValue43
 t27:=Tryz.underlying43
 a27:=Tryz.isAgg43
 z27:=Tryz.sizeOf43
 v27:=Tryz.zeroValue43
 t29:=Tryz.underlying9
 a29:=Tryz.isAgg9
 z29:=Tryz.sizeOf9
 v29:=Tryz.zeroValue9
 t32:=Tryz.underlying233
 a32:=Tryz.isAgg233
 z32:=Tryz.sizeOf233
 v32:=Tryz.zeroValue233
 t35:=Tryz.underlying260
 a35:=Tryz.isAgg260
 z35:=Tryz.sizeOf260
 v35:=Tryz.zeroValue260
 t36:=Tryz.underlying261
 a36:=Tryz.isAgg261
 z36:=Tryz.sizeOf261
 v36:=Tryz.zeroValue261
 t41:=Tryz.underlying182
 a41:=Tryz.isAgg182
 z41:=Tryz.sizeOf182
 v41:=Tryz.zeroValue182
 t44:=Tryz.underlying267
 a44:=Tryz.isAgg267
 z44:=Tryz.sizeOf267
 v44:=Tryz.zeroValue267
 t46:=Tryz.underlying269
 a46:=Tryz.isAgg269
 z46:=Tryz.sizeOf269
 v46:=Tryz.zeroValue269
 t53:=Tryz.underlying274
 a53:=Tryz.isAgg274
 z53:=Tryz.sizeOf274
 v53:=Tryz.zeroValue274
 t57:=Tryz.underlying278
 a57:=Tryz.isAgg278
 z57:=Tryz.sizeOf278
 v57:=Tryz.zeroValue278
 t63:=Tryz.underlying285
 a63:=Tryz.isAgg285
 z63:=Tryz.sizeOf285
 v63:=Tryz.zeroValue285
 t64:=Tryz.underlying33
 a64:=Tryz.isAgg33
 z64:=Tryz.sizeOf33
 v64:=Tryz.zeroValue33 }
def Tryz.sorts87 (m:Nat):AnyZ.SortsIn Pg Tryz.sorted87_ren Fence.wide m:=
  ⟨λblk off j_ g W hH b f=>callsIn_wide.2 (AnyM.slices_Sort_string Tryz.sort128 blk off j_ g W hH b f),
   λp j_ W=>callsIn_wide.2 (AnyM.slices_Sort_string_none Tryz.sort128 p j_ W)⟩
def Tryz.maps_Keys_88 (b:Option Nat)(W:E):CallsIn Fence.wide 5 Pg 88 #[.map b] W λe f=>e=ZI (.func (.func 129) #[] #[.pointer (T (Q (J (U W)) 0 Z))])/\f=ZU W (N #[.map b] 84):=
 AnyZ.keys_in Tryz.keys88 Fence.wide 5 trivial rfl b W
def Tryz.slices_Sorted_keys_87_88 {H:Type}(b n:Nat)(f:DataW H)(R:ZB->Option (DataW H × List MemPlace))(w:E)(h:w.ownsMap Pg 9 R b n f)(m:Maps.size f<=maxLen)(i:Maps.size f*16<=140737488355328):CallsIn Fence.wide 5 Pg 87 #[.func (.func 129) #[] #[.pointer (T (Q (J (U w)) 0 Z))]] (ZU w (N #[.map (T b)] 84)) λe o=>∃(v:ZB) (g:List (List UInt8)),e=ZI v/\g.Perm (strKeys f) /\
   o.ownsRow (J (U (ZU w (N #[.map (T b)] 84)))) 9 1 v (A g) ((g.mergeSort (λx y=>decide (x<=y))).map encStr)/\(v=Y Z 0 0 ↔ g=[])/\Below (J (U (ZU w (N #[.map (T b)] 84)))) (ZU w (N #[.map (T b)] 84)) o:=by
 have p:=h.lt;have l:SeqGives Fence.wide 2 Pg 129 #[.pointer (T (Q (J (U w)) 0 Z))] encStr (λg=>g.Perm (strKeys f)) (Maps.size f) (ZU w (N #[.map (T b)] 84)):=
  AnyZ.keys_gives (ρ:=Tryz.keys88_ren) { Tryz.keys88 with } Fence.wide _ trivial rfl (by omega) (J (U w)) b n f _ (by simp) (by simp) (by
   obtain⟨r,j,hb,q,t,s⟩:=h
   exact⟨r,j,(Below.heap_alloc _ _ b p).k hb,q,t,s⟩)
 exact AnyZ.sorted_in Tryz.sorted87 Fence.wide 5 trivial trivial trivial trivial rfl (by omega) (Tryz.sorts87 _) (enters_of Tryz.func128 (by kernel_rfl) rfl) 129 #[.pointer (T (Q (J (U w)) 0 Z))] trivial (enters_of Tryz.func129 (by kernel_rfl) rfl) _ _ m i _ l
end Go.Proofs
namespace Go.Proofs.YthkgkfehliinfaaGreatDoor.Vp
open RowKit Go.Sort
def mW (a:O_)(n j_:Nat)(f:Nat->au)(w:E)(hn:(n:Int)<=1048576)(hv:SlDeed w a n f)(ZT:∀i,i<n->cX (f i))(R:∀i,i<n->fo (f i)):Calls Pg 12 #[.agg #[Y a n j_]] w λe w'=>∃b off m c:Nat,e=ZI (Y (T (Q b off Z)) m c)/\m=(ip f n).length/\RowStr w' b off m (nmF (ip f n))/\Below (J (U w)) w w':=by
 have S:=ae hv;have s:=ae ZT;have HZ:=ae R;clear hv ZT R;have G:=ae (((BS w).alloc ly (N #[Y a n j_] 25)).alloc (by simp) (N #[] 9));have ZM:(ZU (ZU w (N #[Y a n j_] 25)) (N #[] 9)).cell? (Q (J (U w)) 0 Z)=T (Y a n j_):=by simp
 have H:=ae (show RowStr (ZU (ZU w (N #[Y a n j_] 25)) (N #[] 9)) (J (U w)+1) 0 0 (nmF []) from⟨by simp,λi hi=>absurd hi (NF _)⟩);obtain⟨ZO,V⟩:∃ZO,ZO=ip f n:=⟨_,rfl⟩
 rw[<-V];have ZS:=ae (show ZO=if bc f n=ZH then cG f n else [] from V);clear V;go_enter Tryz.func12,Tryz.ntmps12;go_wp2_with fail;generalize World.alloc (World.alloc w _) _=W at G ZM H ⊢;have hz:J (U w)<J (U W):=by have:=H.1;omega
 refine(uC a n j_ f _ hn (S.aa G ly) s HZ).P ?_;rintro e w1⟨rfl,g⟩;have t:=ae (G.k (g.P G.size));have E1:=ae (H.aa g ly);have k1:=(g.O (p:=(Q (J (U w)) 0 Z)) hz).k ZM;have L:J (U w)<J (U w1):=lj hz g.size;clear g G H ZM hz;have X:=ae (λh:bc f n=ZH=>(⟨er h,gj h⟩:(1<=n/\n<=400/\aQ (bw f) n=-1)/\∀p,p<n->(f p).f<=200));generalize bc f n=r at ZS X ⊢;cases r with
 |false =>obtain rfl:ZO=[]:=ZS.i;go_wp2;go_ret;exact⟨J (U w)+1,0,0,0,rfl,rfl,E1,t⟩
 |true =>
  obtain rfl:ZO=cG f n:=ZS.i;obtain⟨⟨hn1,hn4,-⟩,hl⟩:=X.i rfl;have P:=ae hl;clear hl;clear ZS X s;obtain⟨b,off,rfl,C⟩:=S.resolve_left (by omega);have HR:=ae C;clear S C;go_wp2;go_loopw [3,4] (λv i wr=>∃(k D l m B:Nat),k<=n/\i=.int I k/\v=Y (T (Q D l Z)) m B/\Hid (m=(cG f k).length)/\m<=B/\Hid (RowStr wr D l m (nmF (cG f k)))/\Hid (Below (J (U w1)) w1 wr)) (λ_ i _=>n - (intOf i).toNat);case atStart=>exact⟨0,J (U w)+1,0,0,0,by omega,rfl,rfl,rfl,by omega,E1,a8 _ _⟩
  case round =>
   obtain⟨k,D,l,m,B,hk,rfl,rfl,s,hmc,HK,x⟩:=hrel;have k2:=(x.O (p:=(Q (J (U w)) 0 Z)) L).k k1;by_cases K:k<n
   ·have hm0:m<=k*201:=by have h1:=s.i;have h2:=sJ (f:=f) (k:=k) (λp hp=>P p (by omega));omega
    have hm:(m:Int)<=1048576:=by omega
    have hlk:=P.i k K;have HS:=ae (show cG f (k+1)=ik (cQ (cG f k) (f k).e.toList) (f k).l (f k).f from rfl);obtain⟨p0,p1,p2,p3,⟨a0,cap0,p4,q4⟩,⟨a1,cap1,p5,q5⟩⟩:=(HR.aa (t.k (x.P t.size)) ly).2 k K;clear q4 p4 p1 p2 p3;have Q5:=ae q5;clear q5;have ex:=(HR.aa (t.k (x.P t.size)) ly).1;have P5:=ae p5;clear p5;go_wp2_with (go_at_call 46;refine(sI D l m B (cG f k) (f k).e _ s hm (by omega) HK).P ?_;rintro e w2⟨b2,aq,m2,c2,rfl,y,bt,ZR,g⟩;have ZL:=ae y;have R2:=ae ZR;have D2:=ae g;have B2:=ae (x.k (g.P x.size));clear y ZR g);have y:m2<=k*201+1:=by have h1:=s.i;have h2:=ZL.i;have h3:=pu (cG f k) (f k).e.toList;omega
    have c2k:=bt;go_loopw [3,5] (λv i w3=>∃(j z o q c3:Nat),j<=(f k).f/\i=.int I j/\v=Y (T (Q z o Z)) q c3/\Hid (q=(ik (cQ (cG f k) (f k).e.toList) (f k).l j).length)/\q<=c3/\Hid (RowStr w3 z o q (nmF (ik (cQ (cG f k) (f k).e.toList) (f k).l j)))/\Hid (Below (J (U w2)) w2 w3)) (λ_ i _=>(f k).f - (intOf i).toNat);case atStart=>exact⟨0,b2,aq,m2,c2,by omega,rfl,rfl,ZL,by omega,R2,a8 _ _⟩
    case round =>
     obtain⟨j,z,o,q,c3,hj,rfl,rfl,ZV,hmc3,O,u⟩:=hrel;have D3:=ae (D2.k (u.P D2.size));have B3:=ae (B2.k (u.P B2.size));have k3:=(B3.O (p:=(Q (J (U w)) 0 Z)) L).k k1;have p6:=(D3.O (p:=(Q b (off+k*6+5) Z)) ex).k P5;have Q6:=ae (Q5.aa D3 ly);have la:(q:Int)<=1048576:=by have h1:=ZV.i;have h2:=uV (cQ (cG f k) (f k).e.toList) (f k).l j;have h3:=ZL.i;omega
     by_cases fd:j<(f k).f;{obtain⟨b4,off4,rfl,ZQ⟩:=Q6.resolve_left (by omega);obtain⟨r0,r1,r2,r3⟩:=ZQ.2 j fd;clear r1 r2 r3 ZQ;go_wp2_with (go_at_call 46;refine(sI z o q c3 _ ((f k).l j).e _ ZV la (by omega) O).P ?_;rintro e w4⟨b5,ZN,m5,c5,rfl,ZP,hc5,M,g⟩;have H5:=ae ZP;have R5:=ae M;have B5:=ae (u.k (g.P u.size));clear ZP M g);exact⟨⟨j+1,b5,ZN,m5,c5,by omega,by go_num,rfl,H5,by omega,R5,B5⟩,by simp[intOf];omega⟩}
     ·obtain rfl:j=(f k).f:=by omega
      go_wp2;exact⟨⟨k+1,z,o,q,c3,by omega,by go_num,rfl,by rw[HS.i];exact ZV,by omega,by rw[HS.i];exact O,B3⟩,by simp[intOf];omega⟩
   ·obtain rfl:k=n:=by omega
    go_wp2;go_ret;exact⟨D,l,m,B,rfl,s,HK,t.k (x.P t.size)⟩
open Go.Maps Go.Shelf
def SetIs (w:E)(b n:Nat)(L:List (List UInt8)):Prop:=
 ∃D:DataW Unit,w.ownsMap Pg 9 unitElem b n D/\∀x,x∈L ↔ Maps.has D (.string x)=ZH
def Bs (w:E):SetIs (w.alloc (.map #[] 0)) (J (U w)) 0 []:=
 ⟨_,YF w Pg 9 unitElem,λx=>by simp[Maps.has]⟩
def SetIs.grown {w g:E}{f n:Nat}{L:List (List UInt8)}(h:SetIs w f n L){B:Nat}(hb:Below B w g)(o:f<B):SetIs g f n L:=by obtain⟨D,⟨j,b,h1,i,m,l⟩,h2⟩:=h;exact⟨D,⟨j,b,(hb.p f o).k h1,i,m,l⟩,h2⟩
def SetIs.lt {w:E}{b n:Nat}{L:List (List UInt8)}(h:SetIs w b n L):b<J (U w):=by obtain⟨D,h1,-⟩:=h;exact h1.lt
def EI {D:DataW Unit}{L:List (List UInt8)}{x:List UInt8}(b:Maps.IsMap D)(h:∀z,z∈L ↔ Maps.has D (.string z)=ZH)(d:DataW Unit):∀z,z∈cQ L x ↔ Maps.has (D.put (.string x) d) (.string z)=ZH:=by
 intro z;rw[lX];by_cases e:z=x;{subst e;rw[Maps.has_put_same b (by simp[WideAt.IsKeyLit])];simp};{rw[YE (by simpa using e),<-h z];simp[e]}
def x9 (j n:Nat)(L:List (List UInt8))(x:F_)(w:E)(hn:(n:Int)<=1048576)(t:x.size<=maxLen)(h:SetIs w j n L):Calls Pg 44 #[.map (T j),.string x] w λe m=>e=ZI (.tuple #[])/\SetIs m j (n+1) (cQ L x.toList)/\w.grownBy m (T j):=by obtain⟨D,f,o⟩:=h;have s:=ae f;have q:=ae (EI f.isMap (x:=x.toList) o (.agg []));clear o f;have i:=QT (P:=Pg) (k:=9) ES t;have l:=ae i;clear i;go_enter Tryz.func44,Tryz.ntmps44;go_wp2_with (at_mapUpdate;refine WZ _ rfl _ _ _ 84 rfl 9 144 (SV ES) Tryz.underlying84 unitElem j n D rfl s (by unfold maxLen;omega) _ _ _ rfl rfl l _ [] unitElem_mk ?_;intro w1 g b;have r:=ae g;have p:=ae b;clear g b);go_end0;refine⟨rfl,⟨_,r,?_⟩,p⟩;have:=q.i;simp only[NM] at this ⊢;exact this
def zC (l n:Nat)(L:List (List UInt8))(w:E)(hn:(n:Int)<=1048576)(hL:L.Pairwise (· < ·))(h:SetIs w l n L):Calls Pg 45 #[.map (T l)] w λe j=>∃v,e=ZI v/\j.ownsRow (J (U w)) 9 1 v (A L) (L.map encStr)/\Below (J (U w)) w j:=by
 obtain⟨D,b,q⟩:=h;have hsz:=b.size_le;have g:L.Nodup:=hL.imp λh e=>by subst e;exact VQ _ h
 have m:L.Perm (strKeys D):=Collected.perm (left:=λ_=>ZA) ⟨g,λx=>by rw[q x];simp⟩ b (SV ES) ES (λ_=>rfl);have u:=ae m;have s:=ae g;have t:=ae hL;clear m g hL q;refine(XU (n:=6)).1 ?_;have hfK:Fence.wide.fn 88:=trivial;have hfS:Fence.wide.fn 87:=trivial;refine YX Tryz.func45 rfl trivial ?_ rfl;simp only[Tryz.ntmps45,QG,vF,IS,Nat.reduceAdd,Nat.reduceSub,QY,QZ,SY,RF,NS,PC]
 gi_wp2_with (first
  |(gi_at_call 88;refine(Tryz.maps_Keys_88 _ _).P ?_;rintro e j⟨rfl,rfl⟩)
  |(gi_at_call 87;refine(Tryz.slices_Sorted_keys_87_88 l n D unitElem w b (by unfold maxLen;omega) (by omega)).P ?_;rintro e j⟨v,o,rfl,r,f,hnil,hb⟩))
 go_ret;have i:o.Perm L:=r.k u.c;have p:o.mergeSort (λx y=>decide (x<=y))=L:=Hg (i.nodup_iff.2 s) t (λz=>i.mem_iff);rw[p,i.length_eq] at f;exact⟨v,rfl,ownsRow_base_a f (by simp),((a8 _ w).alloc ly _).k (hb.P (by simp))⟩
def SetIs.P {w:E}{f n b:Nat}{L:List (List UInt8)}(h:SetIs w f n L)(hn:n<=b):SetIs w f b L:=by obtain⟨D,h1,h2⟩:=h;exact⟨D,h1.P hn,h2⟩
def tT (a:O_)(n j_:Nat)(f:Nat->au)(w:E)(hn:(n:Int)<=1048576)(hv:SlDeed w a n f)(aq:(n:Int)<=j_)(H:∀i,i<n->cX (f i))(O:∀i,i<n->fo (f i))(z:Tab w):Calls Pg 11 #[.agg #[Y a n j_]] w λe w'=>∃v,e=ZI v/\w'.ownsRow (J (U w)) 9 1 v (ip f n).length ((ip f n).map encStr)/\Below (J (U w)) w w':=by
 have S:=ae hv;have HM:=ae H;have HZ:=ae O;have HT:=ae z;clear hv H O z;have ZV:=ae ((BS w).alloc ly (N #[Y a n j_] 25));have ZM:(ZU w (N #[Y a n j_] 25)).cell? (Q (J (U w)) 0 Z)=T (Y a n j_):=by simp
 have hz:J (U w)<J (U (ZU w (N #[Y a n j_] 25))):=by simp
 obtain⟨ZO,z⟩:∃ZO,ZO=ip f n:=⟨_,rfl⟩
 rw[<-z];have K:=ae (show ZO=if bc f n=ZH then cG f n else [] from z);clear z;go_enter Tryz.func11,Tryz.ntmps11;go_wp2_with fail;generalize World.alloc w _=W at ZV ZM hz ⊢;refine(jL a n j_ f _ hn (S.aa ZV ly) aq HM (HT.aa ZV HT.1)).P ?_;rintro e g⟨rfl,m⟩;have q:=ae (ZV.k (m.P ZV.size));have k1:=(m.O (p:=(Q (J (U w)) 0 Z)) hz).k ZM;have ex:J (U w)<J (U g):=lj hz m.size;clear m ZV ZM hz;have ZL:=ae (λh:bc f n=ZH=>(⟨er h,gj h⟩:(1<=n/\n<=400/\aQ (bw f) n=-1)/\∀p,p<n->(f p).f<=200));generalize bc f n=r at K ZL ⊢;cases r with
 |false =>obtain rfl:ZO=[]:=K.i;go_wp2;go_ret;exact⟨_,rfl,⟨by simp,.inl ⟨rfl,rfl⟩⟩,q.i⟩
 |true =>
  obtain rfl:ZO=cG f n:=K.i;obtain⟨⟨hn1,hn4,-⟩,hl⟩:=ZL.i rfl;have fd:=ae hl;clear hl;clear K ZL HM;obtain⟨b,off,rfl,G⟩:=S.resolve_left (by omega);have s:=ae G;clear S G;have ZN:=ae (Bs g);have V:=ae ((BS g).alloc ly (.map #[] 0));have k2:=(V.O (p:=(Q (J (U w)) 0 Z)) ex).k k1;have bt:=@run_makeMap Pg;go_wp2;clear bt k2;generalize g.alloc (.map #[] 0)=W1 at ZN V ⊢;obtain⟨u,C⟩:∃u,u=J (U g):=⟨_,rfl⟩
  rw[<-C] at ZN ⊢;have P:=ae C;clear C;go_loopw [15] (λi wr=>∃k:Nat,k<=n/\i=.int I k/\Hid (SetIs wr u (k*201) (cG f k))/\Hid (Below (J (U g)) g wr)) (λi _=>n - (intOf i).toNat);case atStart=>exact⟨0,by omega,rfl,ZN,V⟩
  case round =>
   obtain⟨k,hk,rfl,ZS,ZR⟩:=hrel;by_cases x:k<n
   ·obtain⟨o0,o1,o2,o3,⟨a0,t,o4,q4⟩,⟨a1,l,o5,q5⟩⟩:=s.2 k x;have o:=q.k (ZR.P q.size);have p0:=(o.O (p:=(Q b (off+k*6) Z)) s.1).k o0;have p1:=(o.O (p:=(Q b (off+k*6+1) Z)) s.1).k o1;have p2:=(o.O (p:=(Q b (off+k*6+2) Z)) s.1).k o2;have p3:=(o.O (p:=(Q b (off+k*6+3) Z)) s.1).k o3;have p4:=(o.O (p:=(Q b (off+k*6+4) Z)) s.1).k o4;have p5:=(o.O (p:=(Q b (off+k*6+5) Z)) s.1).k o5;have Q5:=ae q5;clear q4 q5 o0 o1 o2 o3 o4 o5 o;have hlk:=fd.i k x;have HS:=ae (show cG f (k+1)=ik (cQ (cG f k) (f k).e.toList) (f k).l (f k).f from rfl);have B:=ae ((BS wr).alloc ly (N #[.string (f k).e,.int I (f k).m,.int I (f k).M,.string (f k).H,Y a0 (f k).h t,Y a1 (f k).f l] 58));have C2:=ae (ZR.alloc ZR.size (N #[.string (f k).e,.int I (f k).m,.int I (f k).M,.string (f k).H,Y a0 (f k).h t,Y a1 (f k).f l] 58));have K2:=ae (ZS.grown B ZS.lt);have X5:=ae (show(ZU wr (N #[.string (f k).e,.int I (f k).m,.int I (f k).M,.string (f k).H,Y a0 (f k).h t,Y a1 (f k).f l] 58)).cell? (Q (J (U wr)) 5 Z)=T (Y a1 (f k).f l) by simp);have mz:=ZS.lt;go_wp2_with (go_at_call 44;refine(x9 u (k*201) (cG f k) (f k).e _ (by omega) (HZ k x).1 K2).P ?_;rintro e w2⟨rfl,R,D⟩;have S2:=ae R;have X:=ae (bg C2 D C2.size (λj e=>by cases e;exact VV P.c));have x6:=D.O X5.i (by simp;omega);clear R D);clear x6;go_loopw [26] (λi w3=>∃j:Nat,j<=(f k).f/\i=.int I j/\Hid (SetIs w3 u (k*201+1+j) (ik (cQ (cG f k) (f k).e.toList) (f k).l j))/\Hid (Below (J (U g)) g w3)) (λi _=>(f k).f - (intOf i).toNat);case atStart=>exact⟨0,by omega,rfl,S2,X⟩
    case round =>
     obtain⟨j,hj,rfl,ZT,y⟩:=hrel;by_cases ZP:j<(f k).f;{obtain⟨b4,off4,rfl,M⟩:=(Q5.aa (q.k (y.P q.size)) ly).resolve_left (by omega);obtain⟨r0,r1,r2,r3⟩:=M.2 j ZP;clear M;have C3:=ae (y.alloc y.size (N #[.string ((f k).l j).e,.bool ((f k).l j).ask,.bool ((f k).l j).has,.int I ((f k).l j).G] 74));have K3:=ae (ZT.grown ((BS wr).alloc ly (N #[.string ((f k).l j).e,.bool ((f k).l j).ask,.bool ((f k).l j).has,.int I ((f k).l j).G] 74)) ZT.lt);go_wp2_with (go_at_call 44;refine(x9 u (k*201+1+j) _ ((f k).l j).e _ (by omega) ((HZ k x).2.2.2.2 j ZP) K3).P ?_;rintro e w4⟨rfl,L,ZQ⟩;have S4:=ae L;have B4:=ae (bg C3 ZQ C3.size (λj e=>by cases e;exact VV P.c));clear L ZQ);exact⟨⟨j+1,by omega,by go_num,S4,B4⟩,by simp[intOf];omega⟩}
     ·obtain rfl:j=(f k).f:=by omega
      go_wp2;exact⟨⟨k+1,by omega,by go_num,by rw[HS.i];exact ZT.P (by omega),y⟩,by simp[intOf];omega⟩
   ·obtain rfl:k=n:=by omega
    have B:=ae (q.k (ZR.P q.size));go_wp2_with (go_at_call 45;refine(zC u (k*201) (cG f k) _ (by omega) (Bq f k) ZS).P ?_;rintro e w2⟨v,rfl,ho,m⟩;have O2:=ae (aE ho B.size);have X:=ae (B.k (m.P B.size));clear ho m);go_ret;exact⟨v,rfl,O2,X⟩
