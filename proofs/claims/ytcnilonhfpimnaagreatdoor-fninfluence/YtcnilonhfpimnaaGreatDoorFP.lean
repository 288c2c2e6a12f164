import Derived.Test.YtcnilonhfpimnaaGreatDoorFI
import Derived.Shelf.SlIter.Nil
import Derived.Shelf.SortM.Plain
import Derived.Shelf.SortM.SortNone
import Derived.Ground.GgzProg
import Derived.Ground.SlgmProg
import Derived.Sort.Walk0
import Derived.Sort.EncStr
set_option linter.all false
set_option maxRecDepth 100000
set_option maxHeartbeats 4000000
open Go renaming Addr.mk->T,Value.slice->Y,Obj.cells->N,IntKind.i64->I,World->E,Value->ZB,Ending.returned->ZI,World.heap->U,World.alloc->ZU,Proofs.Tryz.prog->Pg,Calls->Qw
open Option renaming none->Z,some->Q
open Bool renaming false->ZA,true->ZH
open Array renaming size->J
open List renaming length->A
namespace Go.Proofs.YtcnilonhfpimnaaGreatDoor.Vp
open RowKit
def cQ:List (List UInt8)->List UInt8->List (List UInt8)
 |[],x=>[x]
 |y::ys,x=>if y<x then y::cQ ys x else if y=x then y::ys else x::y::ys
def lT (l:List (List UInt8))(x z:List UInt8):z∈cQ l x ↔ z∈l\/z=x:=by
 induction l with
 |nil=>simp[cQ]
 |cons y ys b =>
  rw[cQ];split;{rw[vG,b,vG,or_assoc]};{split;{rename_i e;subst e;simp only[vG];constructor;{exact λh=>.inl h};{rintro(h|h);{exact h};{exact .inl h}}};{simp only[vG];constructor;{rintro(h|h|h);{exact .inr h};{exact .inl (.inl h)};{exact .inl (.inr h)}};{rintro((h|h)|h);{exact .inr (.inl h)};{exact .inr (.inr h)};{exact .inl h}}}}
def qv {x y:List UInt8}(h1:¬ y<x)(h2:y≠x):x<y:=by
 rcases List.le_total x y with h|h;{exact PR λb=>h2 (List.le_antisymm b h)};{exact PR λb=>h2 (List.le_antisymm h h1)}
def uJ {l:List (List UInt8)}(h:l.Pairwise (· < ·))(x:List UInt8):(cQ l x).Pairwise (· < ·):=by
 induction l with
 |nil=>simp[cQ]
 |cons y ys i =>
  obtain⟨h1,h2⟩:=PX.1 h;rw[cQ];split;{rename_i f;refine PX.2 ⟨λz hz=>?_,i h2⟩;rcases(lT _ _ _).1 hz with hz|rfl;{exact h1 z hz};{exact f}};{split;{exact h};{rename_i hn g;have b:=qv hn g;refine PX.2 ⟨λz hz=>?_,h⟩;rcases vG.1 hz with rfl|hz;{exact b};{exact List.lt_trans b (h1 z hz)}}}
def xU:∀{l m:List (List UInt8)},l.Pairwise (· < ·)->m.Pairwise (· < ·)->(∀z,z∈l ↔ z∈m)->l=m
 |[],[],_,_,_=>rfl
 |[],y::ys,_,_,h=>by have:=(h y).2 (by simp);simp at this
 |x::xs,[],_,_,h=>by have:=(h x).1 (by simp);simp at this
 |x::xs,y::ys,h1,h2,h=>by
  obtain⟨a1,j⟩:=PX.1 h1;obtain⟨i,n⟩:=PX.1 h2;have g:x=y:=by
   rcases vG.1 ((h x).1 (by simp)) with e|e
   ·exact e
   ·rcases vG.1 ((h y).2 (by simp)) with f|f
    ·exact f.c
    ·exact absurd (List.lt_trans (i x e) (a1 y f)) (VQ _)
  subst g;congr 1;refine xU j n λz=>?_;have hz:=h z;simp only[vG] at hz;constructor
  ·intro b
   rcases hz.1 (.inr b) with e|e
   ·subst e;exact absurd (a1 _ b) (VQ _)
   ·exact e
  ·intro b
   rcases hz.2 (.inr b) with e|e
   ·subst e;exact absurd (i _ b) (VQ _)
   ·exact e
def Es {f:List (List UInt8)}(h:f.Nodup):(f.mergeSort (λx y=>decide (x<=y))).Pairwise (· < ·):=by
 have j:(f.mergeSort (λx y=>decide (x<=y))).Pairwise (λx y=>decide (x<=y)=ZH):=
  List.pairwise_mergeSort (λa b c i g=>by simp only[nD] at *;exact List.le_trans i g) (λa b=>by simp only[Bool.or_eq_true,nD];exact List.le_total a b) f
 have hn:(f.mergeSort (λx y=>decide (x<=y))).Nodup:=(List.mergeSort_perm f _).nodup_iff.2 h;refine(j.and hn).imp ?_;rintro a b⟨h1,h2⟩;exact qv (by simpa using h1) (Ne.symm h2)
def Hc {b l:List (List UInt8)}(h:b.Nodup)(g:l.Pairwise (· < ·))(f:∀z,z∈b ↔ z∈l):b.mergeSort (λx y=>decide (x<=y))=l:=
 xU (Es h) g λz=>by rw[<-f z];exact(List.mergeSort_perm b _).mem_iff
def xV:∀(l:List (List UInt8)) (x:List UInt8) (k:Nat),k<=A l->(∀j (h:j<A l),j<k->l[j]<x)->(∀h:k<A l,¬ l[k]<x)->cQ l x=if l[k]?=Q x then l else l.take k++x::l.drop k
 |[],x,k,hk,_,_=>by simp at hk;subst hk;simp[cQ]
 |y::ys,x,0,hk,h1,h2=>by have:=h2 (by simp);simp only[List.getElem_cons_zero] at this;rw[cQ,eI this];simp
 |y::ys,x,k+1,hk,h1,h2=>by have b:=h1 0 (by simp) (by omega);simp only[List.getElem_cons_zero] at b;rw[cQ,eT b,xV ys x k (by simpa using hk) (λj h hj=>by have:=h1 (j+1) (by simpa using h) (by omega);simpa using this) (λh=>by have:=h2 (by simpa using h);simpa using this)];simp only[VH,List.take_succ_cons,List.drop_succ_cons];split<;>rfl
def pq (l:List (List UInt8))(x:List UInt8):(cQ l x).length<=A l+1:=by
 induction l with
 |nil=>simp[cQ]
 |cons y ys ih =>
  rw[cQ];split;{simp only[vF];omega};{split<;>simp}
open Go.Sort
def nmF (L:List (List UInt8))(j:Nat):F_:=⟨(L.getD j []).toArray⟩
def jM {L:List (List UInt8)}{j:Nat}(h:j<A L):(nmF L j).toList=L[j]:=by simp[nmF,NJ,List.getD,h]
def rE {L:List (List UInt8)}{j:Nat}(h:j<A L):Value.string (nmF L j)=encStr L[j]:=by simp[nmF,List.getD,h]
def Et (x:F_):(⟨x.toList.toArray⟩:F_)=x:=by rw[NJ]
def xj {w:E}{l g c:Nat}{L:List (List UInt8)}(h:w.ownsRow l 9 1 (Y (Q (T g 0 Z)) (A L) c) (A L) (L.map encStr)):RowStr w g 0 (A L) (nmF L):=by
 rcases h.2 with⟨b,h0⟩|⟨g',j_,f,b,hb,j,hc1,hc2,hc3,m⟩
 {simp at b}
 ·simp only[IN,L8,RJ] at b;obtain⟨⟨rfl,-⟩,-,rfl⟩:=b;have n:g<J (U w):=by
   rcases OR g (J (U w)) with h1|h1;{exact h1};{rw[PL h1] at j;simp at j}
  refine⟨n,λi hi=>?_⟩;have p:w.cell? (T g (0+i) Z)=f[i]?:=by simp[World.cell?,j]
  have o:(f.toList.take (A L*1))[i]?=(L.map encStr)[i]?:=by rw[m]
  rw[TV,eT (by omega),NS,LR,gq hi] at o;rw[p,o,rE hi];rfl
def uK {w:E}{b off n:Nat}{L:List (List UInt8)}(hR:RowStr w b off n (nmF L))(hn:n=A L)(k m:Nat):∀j u,(((L.drop k).take m).map encStr)[j]?=Q u->w.cell? (((T b (off+k) Z):Addr).add j)=Q u:=by
 intro j u f;rw[LR,TV] at f;split at f;{rw[YJ] at f;rcases OR (k+j) (A L) with h1|h1;{rw[gq h1] at f;have:=hR.2 (k+j) (by omega);rw[rE h1] at this;rw[Addr.add_lit,U6,this];simpa using f};{rw[NT h1] at f;simp at f}};{simp at f}
def Bh {w:E}{b off n j_:Nat}{L:List (List UInt8)}(hR:RowStr w b off n (nmF L))(hn:n=A L)(k:Nat)(hk:k<=n)(hc:(n:Int)<=j_):∀j u,(((L.drop k).take (n - k)).map encStr)[j]?=Q u->w.cell? ((⟨b,off+if j_=k then 0 else k,Z⟩:Addr).add j)=Q u:=by
 by_cases h:j_=k
 ·have:n - k=0:=by omega
  rw[this];intro j u f;simp at f
 {rw[eI h];exact uK hR hn k (n - k)}
def xW (l:List (List UInt8)):∀u∈l.map encStr,u.oneCell'=ZH:=by intro u b;obtain⟨x,-,rfl⟩:=NM.1 b;rfl
def Hd:(Pg.info? 9).map (λi=>(i.zero,i.size,i.bytes))=Q (Q (.string ⟨#[]⟩),1,16):=by kernel_rfl
def sF {L:List (List UInt8)}{x:List UInt8}{n k:Nat}(hL:n=A L)(hk:k<=n)(f:∀j,j<k->(nmF L j).toList<x)(b:k<n->¬ (nmF L k).toList<x):cQ L x=if L[k]?=Q x then L else L.take k++x::L.drop k:=
 xV L x k (by omega) (λj h g=>by rw[<-jM h];exact f j g) (λh=>by rw[<-jM h];exact b (by omega))
def Bi {L:List (List UInt8)}{x:List UInt8}{n k:Nat}(hL:n=A L)(i:k<n)(g:∀j,j<k->(nmF L j).toList<x)(f:¬ (nmF L k).toList<x)(h:(nmF L k).toList=x):cQ L x=L:=by
 have b:k<A L:=by omega
 rw[sF hL (TQ i) g (λ_=>f),eT];rw[gq b,<-jM b,h]
def Eu {w:E}{q n k:Nat}{v:ZB}{L:List (List UInt8)}{x:F_}(h:w.ownsRow q 9 1 v (0+k+1+(n - k)) ([]++(L.take k).map encStr++[.string x]++((L.drop k).take (n - k)).map encStr))(hL:n=A L)(u:k<=n)
  (s:∀j,j<k->(nmF L j).toList<x.toList) (p:k<n->¬ (nmF L k).toList<x.toList/\(nmF L k).toList≠x.toList) :
  ∃r f o b:Nat,v=Y (Q (T r f Z)) o b/\o=(cQ L x.toList).length/\(o:Int)<=b/\RowStr w r f o (nmF (cQ L x.toList)):=by
 rw[NU (l:=L.drop k) (by simp;omega)] at h;have e:cQ L x.toList=L.take k++x.toList::L.drop k:=by
  rw[sF hL u s (λh=>(p h).1),eI];intro i;rcases OR k (A L) with h1|h1;{rw[gq h1,<-jM h1] at i;exact(p (by omega)).2 (by simpa using i)};{rw[NT h1] at i;simp at i}
 have y:(cQ L x.toList).map encStr=[]++(L.take k).map encStr++[.string x]++(L.drop k).map encStr:=by rw[e];simp[Et]
 have t:0+k+1+(n - k)=(cQ L x.toList).length:=by rw[e];simp;omega
 rw[t,<-y] at h;have z:0<(cQ L x.toList).length:=by omega
 obtain⟨g,c,rfl⟩:=iA h z;refine⟨g,0,_,c,rfl,rfl,?_,xj h⟩;rcases h.2 with⟨m,h0⟩|⟨g',j_,cur,m,hb,hg,hc1,hc2,hc3,hc4⟩
 {simp at m};{simp only[IN] at m;obtain⟨-,-,rfl⟩:=m;omega}
def sG (b off n j_:Nat)(L:List (List UInt8))(x:F_)(w:E)(hL:n=A L)(hn:(n:Int)<=1048576)(K:(n:Int)<=j_)(hR:RowStr w b off n (nmF L)):Qw Pg 40 #[Y (Q (T b off Z)) n j_,.string x] w λe ZP=>∃D m q o:Nat,e=ZI (Y (Q (T D m Z)) q o)/\q=(cQ L x.toList).length/\(q:Int)<=o/\RowStr ZP D m q (nmF (cQ L x.toList))/\Below (J (U w)) w ZP:=by
 obtain⟨ZR,hi,t,ZV,y⟩:=NO Hd;have u:=ae hR;have p:=ae hL;clear hR hL;go_enter Tryz.func40,Tryz.ntmps40;go_wp2;go_loop [5] (λi=>∃k:Nat,k<=n/\i=.int I k/\Hid (∀j,j<k->(nmF L j).toList<x.toList)) (λi=>n - (intOf i).toNat);case atStart=>exact⟨0,by omega,rfl,λj ZQ=>absurd ZQ (NE _)⟩
 case round =>
  obtain⟨k,R,rfl,ZS⟩:=hrel;have hkc:(k:Int)<=j_:=by omega
  by_cases s:k<n;rotate_left;focus
   have S:=ae (show k<n->¬ (nmF L k).toList<x.toList/\(nmF L k).toList≠x.toList from λh=>absurd h s);have hge:¬ (k:Int)<n:=by omega
  rotate_left;focus
   have hck:=u.i.2 k s;by_cases hb:Op.bytesLess (nmF L k).toList x.toList=ZH
   ·go_wp2
    exact⟨⟨k+1,by omega,by go_num,λj ZQ=>by
     by_cases e:j=k
     ·subst e;rw[bytesLess_eq] at hb;exact OT hb
     ·exact ZS.i j (by omega)⟩,by simp[intOf];omega⟩
   replace hb:Op.bytesLess (nmF L k).toList x.toList=ZA:=by simpa using hb
   have r:=ae (show ¬ (nmF L k).toList<x.toList by rw[bytesLess_eq] at hb;exact VB hb);by_cases B:((nmF L k).toList == x.toList)=ZH
   ·have ZO:=ae (Bi p.i s ZS.i r.i (by simpa using B))
    go_wp2;go_ret;exact⟨b,off,n,j_,rfl,by rw[ZO.i];exact p.i,by omega,by rw[ZO.i];exact u.i,a8 _ _⟩
   replace B:((nmF L k).toList == x.toList)=ZA:=by simpa using B
   have S:=ae (show k<n->¬ (nmF L k).toList<x.toList/\(nmF L k).toList≠x.toList from λ_=>⟨r.i,by simpa using B⟩);clear r
  all_goals
   have M:=ae (xP w 9 1);have H:=ae ((BS w).alloc ly (N #[] 9));have P:=ae (uK (u.i.aa H.i ly) p.i 0 k);go_wp2_with (at_builtin;refine DN _ rfl (.tmp 34) (.tmp 37) 43 rfl (J (U w)) 9 ZR (.string ⟨#[]⟩) 1 16 NG hi t ZV y rfl (by decide) (Y (Q (T (J (U w)) 0 Z)) 0 0) 0 [] (by simp[Act.eval]) M.i (T b off Z) k j_ ((L.take k).map encStr) (by simp[Act.eval]) (by have:=p.i;first|(simp;done)|(simp;omega)) (by simpa using P.i) (xW _) (by unfold maxLen;omega) (by omega) (by simp) ?_;intro v1 C g f l;have z:=ae g;have G:=ae (bg H.i f (by simp) (λj e=>(M.i.lt j e).1));clear g f l P M H);have R1:=ae (u.i.aa G.i ly);have z1:=G.i.size
   go_region_law (first
    |(refine dR rfl (.tmp 39) (.tmp 41) 43 rfl (J (U w)) 9 ZR (.string ⟨#[]⟩) 1 16 NG hi t ZV y rfl (by decide) v1 (0+k) ([]++(L.take k).map encStr) (by simp[Act.eval]) (by first|exact z.i.alloc _|exact z.i.drew.alloc _|exact z.i.drew.drew.alloc _) (T (J (U C)) 0 Z) 1 1 [.string x] (by simp[Act.eval]) rfl (by first|exact ep C _ _|exact ep C.drew _ _|exact ep C.drew.drew _ _) (by simp[Value.oneCell']) (by unfold maxLen;omega) (by omega) (by simp<;>omega) ?_;intro W w2 g f l;have O:=ae g;(first|have ZT:=ae (bg (G.i.alloc z1 _) f (by simp<;>omega) (λj e=>(z.i.lt j e).1))|have ZT:=ae (bg (G.i.drew.alloc (by simpa using z1) _) f (by simp<;>omega) (λj e=>(z.i.lt j e).1)));have X:=ae (u.i.aa ZT.i ly);have ZM:=ae (Bh X.i p.i k R K);have z2:=ZT.i.size;clear g f l)
    |(refine dR rfl (.tmp 42) (.tmp 45) 43 rfl (J (U w)) 9 ZR (.string ⟨#[]⟩) 1 16 NG hi t ZV y rfl (by decide) W (0+k+1) ([]++(L.take k).map encStr++[.string x]) (by simp[Act.eval]) O.i ⟨b,off+if j_=k then 0 else k,Z⟩ (n - k) (j_ - k) (((L.drop k).take (n - k)).map encStr) (by by_cases h:j_=k<;>simp[Act.eval,h]) (by have:=p.i;first|(simp;done)|(simp;omega)) ZM.i (xW _) (by unfold maxLen;omega) (by omega) z2 ?_;intro v3 w3 g f l;have V:=ae g;have ZN:=ae (bg ZT.i f z2 (λj e=>(O.i.lt j e).1));clear g f l))
   all_goals go_wp2
   all_goals
    obtain⟨D,m,q,o,rfl,h1,h2,ZL⟩:=Eu V.i p.i R ZS.i S.i;go_ret;exact⟨D,m,q,o,rfl,h1,by omega,ZL,ZN.i⟩
def IK (f:Nat->au):Nat->List (List UInt8)
 |0=>[]
 |k+1=>if (f k).L=1 then cQ (IK f k) (f k).e.toList else IK f k
def ig (acc:List (List UInt8))(g:Nat->Link):Nat->List (List UInt8)
 |0=>acc
 |j+1=>cQ (ig acc g j) (g j).e.toList
def Ev {acc:List (List UInt8)}(h:acc.Pairwise (· < ·))(g:Nat->Link)(j:Nat):(ig acc g j).Pairwise (· < ·):=by
 induction j with
 |zero=>exact h
 |succ j b=>exact uJ b _
def uL (acc:List (List UInt8))(g:Nat->Link)(j:Nat):(ig acc g j).length<=A acc+j:=by
 induction j with
 |zero=>exact p7 _
 |succ j ih =>have:=pq (ig acc g j) (g j).e.toList;rw[ig];omega
def cG (f:Nat->au):Nat->List (List UInt8)
 |0=>[]
 |k+1=>ig (cQ (cG f k) (f k).e.toList) (f k).m (f k).f
def Bj (f:Nat->au)(k:Nat):(cG f k).Pairwise (· < ·):=by
 induction k with
 |zero=>exact List.Pairwise.nil
 |succ k b=>exact Ev (uJ b _) _ _
def sH {f:Nat->au}{k:Nat}(h:∀p,p<k->(f p).f<=200):(cG f k).length<=k*201:=by
 induction k with
 |zero=>exact p7 _
 |succ k b =>have h1:=b λp hp=>h p (by omega);have h2:=uL (cQ (cG f k) (f k).e.toList) (f k).m (f k).f;have h3:=pq (cG f k) (f k).e.toList;have h4:=h k (by omega);rw[cG];omega
def ii (f:Nat->au)(n:Nat):List (List UInt8):=if bc f n=ZH then cG f n else []
def uM (f:Nat->au)(n:Nat):(ii f n).length<=1048576:=by
 unfold ii;split;{rename_i h;have h1:=er h;have h2:=sH (f:=f) (k:=n) (gj h);omega};{simp}
def Ew (acc:List (List UInt8))(g:Nat->Link)(j:Nat)(z:List UInt8):z∈ig acc g j ↔ z∈acc\/∃i,i<j/\(g i).e.toList=z:=by
 induction j with
 |zero=>simp[ig]
 |succ j b =>
  rw[ig,lT,b];constructor;{rintro((h|⟨i,hi,h⟩)|h);{exact .inl h};{exact .inr ⟨i,by omega,h⟩};{exact .inr ⟨j,by omega,h.c⟩}};{rintro(h|⟨i,hi,h⟩);{exact .inl (.inl h)};{by_cases e:i=j;{subst e;exact .inr h.c};{exact .inl (.inr ⟨i,by omega,h⟩)}}}
def Bl (f:Nat->au)(k:Nat)(z:List UInt8):z∈cG f k ↔ ∃i,i<k/\((f i).e.toList=z\/∃j,j<(f i).f/\((f i).m j).e.toList=z):=by
 induction k with
 |zero=>simp[cG]
 |succ k b =>
  rw[cG,Ew,lT,b];constructor;{rintro((⟨i,hi,h⟩|h)|⟨j,hj,h⟩);{exact⟨i,by omega,h⟩};{exact⟨k,by omega,.inl h.c⟩};{exact⟨k,by omega,.inr ⟨j,hj,h⟩⟩}};{rintro⟨i,hi,h⟩;by_cases e:i=k;{subst e;rcases h with h|h;{exact .inl (.inr h.c)};{exact .inr h}};{exact .inl (.inl ⟨i,by omega,h⟩)}}
end Go.Proofs.YtcnilonhfpimnaaGreatDoor.Vp
namespace Go.Proofs
open RowKit Go.Maps Go.Sort Go.Shelf
def Tryz.keys73_ren:Go.Shelf.Ren:=⟨λ|7=>73|10=>111|n=>n,λ|23=>75|26=>9|3=>122|28=>125|0=>0|27=>124|33=>79|4=>4|n=>n,λ|n=>n⟩
def Tryz.keys73:Go.Proofs.SlLaysZ.n7 Pg Tryz.keys73_ren:={
 mixed:=by kernel_rfl
 f7:=⟨Tryz.f73.name,by decide,Tryz.func73.k (congrArg Q (by kernel_rfl))⟩
 f10:=⟨Tryz.f111.name,by decide,Tryz.func111.k (congrArg Q (by kernel_rfl))⟩
 t0:=Tryz.underlying0
 a0:=Tryz.isAgg0
 z0:=Tryz.sizeOf0
 v0:=Tryz.zeroValue0
 t4:=Tryz.underlying4
 a4:=Tryz.isAgg4
 z4:=Tryz.sizeOf4
 v4:=Tryz.zeroValue4
 t23:=Tryz.underlying75
 a23:=Tryz.isAgg75
 z23:=Tryz.sizeOf75
 v23:=Tryz.zeroValue75
 t26:=Tryz.underlying9
 a26:=Tryz.isAgg9
 z26:=Tryz.sizeOf9
 v26:=Tryz.zeroValue9
 t27:=Tryz.underlying124
 a27:=Tryz.isAgg124
 z27:=Tryz.sizeOf124
 v27:=Tryz.zeroValue124
 t28:=Tryz.underlying125
 a28:=Tryz.isAgg125
 z28:=Tryz.sizeOf125
 v28:=Tryz.zeroValue125
 t33:=Tryz.underlying79
 a33:=Tryz.isAgg79
 z33:=Tryz.sizeOf79
 v33:=Tryz.zeroValue79 }
def Tryz.sorted72_ren:Go.Shelf.Ren:=⟨λ|6=>72|8=>109|9=>110|11=>147|13=>149|12=>148|23=>176|24=>177|14=>168|15=>169|16=>170|17=>171|18=>172|19=>173|20=>155|21=>174|22=>175|25=>187|26=>188|27=>189|28=>190|29=>191|30=>180|31=>196|n=>n,λ|26=>9|28=>125|24=>43|0=>0|3=>3|37=>218|48=>256|50=>258|4=>4|40=>250|39=>249|45=>155|5=>5|9=>9|51=>264|55=>268|57=>275|58=>33|33=>79|n=>n,λ|n=>n⟩
def Tryz.sorted72:Go.Proofs.SlLaysZ.n6 Pg Tryz.sorted72_ren:={
 mixed:=by kernel_rfl
 f6:=⟨Tryz.f72.name,by decide,Tryz.func72.k (congrArg Q (by kernel_rfl))⟩
 f8:=⟨Tryz.f109.name,by decide,Tryz.func109.k (congrArg Q (by kernel_rfl))⟩
 f11:=⟨Tryz.f147.name,by decide,Tryz.func147.k (congrArg Q (by kernel_rfl))⟩
 t0:=Tryz.underlying0
 a0:=Tryz.isAgg0
 z0:=Tryz.sizeOf0
 v0:=Tryz.zeroValue0
 t24:=Tryz.underlying43
 a24:=Tryz.isAgg43
 z24:=Tryz.sizeOf43
 v24:=Tryz.zeroValue43
 t26:=Tryz.underlying9
 a26:=Tryz.isAgg9
 z26:=Tryz.sizeOf9
 v26:=Tryz.zeroValue9
 t28:=Tryz.underlying125
 a28:=Tryz.isAgg125
 z28:=Tryz.sizeOf125
 v28:=Tryz.zeroValue125
 i26:=by kernel_rfl }
def Tryz.sort110_ren:Go.Shelf.Ren:=⟨λ|6=>110|8=>149|9=>148|19=>176|20=>177|21=>168|22=>169|23=>170|24=>171|25=>172|26=>173|27=>155|28=>174|29=>175|36=>187|31=>188|32=>189|37=>190|38=>191|39=>180|41=>196|n=>n,λ|27=>43|29=>9|3=>3|32=>218|26=>43|0=>0|44=>256|46=>258|4=>4|36=>250|35=>249|41=>155|5=>5|9=>9|53=>264|57=>268|63=>275|64=>33|n=>n,λ|n=>n⟩
def Tryz.sort110:Go.Proofs.SlLaysM.n6 Pg Tryz.sort110_ren:={
 mixed:=by kernel_rfl
 f6:=⟨Tryz.f110.name,by decide,Tryz.func110.k (congrArg Q (by kernel_rfl))⟩
 f8:=Tryz.func149.k (congrArg Q (by kernel_rfl))
 f9:=⟨Tryz.f148.name,by decide,Tryz.func148.k (congrArg Q (by kernel_rfl))⟩
 f19:=Tryz.func176.k (congrArg Q (by kernel_rfl))
 f20:=Tryz.func177.k (congrArg Q (by kernel_rfl))
 f21:=⟨Tryz.f168.name,by decide,Tryz.func168.k (congrArg Q (by kernel_rfl))⟩
 f22:=⟨Tryz.f169.name,by decide,Tryz.func169.k (congrArg Q (by kernel_rfl))⟩
 f23:=⟨Tryz.f170.name,by decide,Tryz.func170.k (congrArg Q (by kernel_rfl))⟩
 f24:=⟨Tryz.f171.name,by decide,Tryz.func171.k (congrArg Q (by kernel_rfl))⟩
 f25:=⟨Tryz.f172.name,by decide,Tryz.func172.k (congrArg Q (by kernel_rfl))⟩
 f26:=⟨Tryz.f173.name,by decide,Tryz.func173.k (congrArg Q (by kernel_rfl))⟩
 f27:=⟨Tryz.f155.name,by decide,Tryz.func155.k (congrArg Q (by kernel_rfl))⟩
 f28:=⟨Tryz.f174.name,by decide,Tryz.func174.k (congrArg Q (by kernel_rfl))⟩
 f29:=⟨Tryz.f175.name,by decide,Tryz.func175.k (congrArg Q (by kernel_rfl))⟩
 f31:=Tryz.func188.k (congrArg Q (by kernel_rfl))
 f32:=Tryz.func189.k (congrArg Q (by kernel_rfl))
 f36:=⟨Tryz.f187.name,by decide,Tryz.func187.k (congrArg Q (by kernel_rfl))⟩
 f37:=⟨Tryz.f190.name,by decide,Tryz.func190.k (congrArg Q (by kernel_rfl))⟩
 f38:=⟨Tryz.f191.name,by decide,Tryz.func191.k (congrArg Q (by kernel_rfl))⟩
 f39:=⟨Tryz.f180.name,by decide,Tryz.func180.k (congrArg Q (by kernel_rfl))⟩
 f41:=⟨Tryz.f196.name,by decide,Tryz.func196.k (congrArg Q (by kernel_rfl))⟩
 t0:=Tryz.underlying0
 a0:=Tryz.isAgg0
 z0:=Tryz.sizeOf0
 v0:=Tryz.zeroValue0
 t3:=Tryz.underlying3
 a3:=Tryz.isAgg3
 z3:=Tryz.sizeOf3
 v3:=Tryz.zeroValue3
 t4:=Tryz.underlying4
 a4:=Tryz.isAgg4
 z4:=Tryz.sizeOf4
 v4:=Tryz.zeroValue4
 t5:=Tryz.underlying5
 a5:=Tryz.isAgg5
 z5:=Tryz.sizeOf5
 v5:=Tryz.zeroValue5
 t9:=Tryz.underlying9
 a9:=Tryz.isAgg9
 z9:=Tryz.sizeOf9
 v9:=Tryz.zeroValue9
 t26:=Tryz.underlying43
 a26:=Tryz.isAgg43
 z26:=Tryz.sizeOf43
 v26:=Tryz.zeroValue43
 t27:=Tryz.underlying43
 a27:=Tryz.isAgg43
 z27:=Tryz.sizeOf43
 v27:=Tryz.zeroValue43
 t29:=Tryz.underlying9
 a29:=Tryz.isAgg9
 z29:=Tryz.sizeOf9
 v29:=Tryz.zeroValue9
 t32:=Tryz.underlying218
 a32:=Tryz.isAgg218
 z32:=Tryz.sizeOf218
 v32:=Tryz.zeroValue218
 t35:=Tryz.underlying249
 a35:=Tryz.isAgg249
 z35:=Tryz.sizeOf249
 v35:=Tryz.zeroValue249
 t36:=Tryz.underlying250
 a36:=Tryz.isAgg250
 z36:=Tryz.sizeOf250
 v36:=Tryz.zeroValue250
 t41:=Tryz.underlying155
 a41:=Tryz.isAgg155
 z41:=Tryz.sizeOf155
 v41:=Tryz.zeroValue155
 t44:=Tryz.underlying256
 a44:=Tryz.isAgg256
 z44:=Tryz.sizeOf256
 v44:=Tryz.zeroValue256
 t46:=Tryz.underlying258
 a46:=Tryz.isAgg258
 z46:=Tryz.sizeOf258
 v46:=Tryz.zeroValue258
 t53:=Tryz.underlying264
 a53:=Tryz.isAgg264
 z53:=Tryz.sizeOf264
 v53:=Tryz.zeroValue264
 t57:=Tryz.underlying268
 a57:=Tryz.isAgg268
 z57:=Tryz.sizeOf268
 v57:=Tryz.zeroValue268
 t63:=Tryz.underlying275
 a63:=Tryz.isAgg275
 z63:=Tryz.sizeOf275
 v63:=Tryz.zeroValue275
 t64:=Tryz.underlying33
 a64:=Tryz.isAgg33
 z64:=Tryz.sizeOf33
 v64:=Tryz.zeroValue33 }
def Tryz.sorts72 (m:Nat):AnyZ.SortsIn Pg Tryz.sorted72_ren Fence.wide m:=
  ⟨λblk off j_ g W hH b f=>callsIn_wide.2 (AnyM.slices_Sort_string Tryz.sort110 blk off j_ g W hH b f),
   λp j_ W=>callsIn_wide.2 (AnyM.slices_Sort_string_none Tryz.sort110 p j_ W)⟩
def Tryz.maps_Keys_73 (b:Option Nat)(W:E):CallsIn Fence.wide 5 Pg 73 #[.map b] W λe f=>e=ZI (.func (.func 111) #[] #[.pointer (Q (T (J (U W)) 0 Z))])/\f=ZU W (N #[.map b] 75):=
 AnyZ.keys_in Tryz.keys73 Fence.wide 5 trivial rfl b W
def Tryz.slices_Sorted_keys_72_73 {H:Type}(b n:Nat)(f:DataW H)(R:ZB->Option (DataW H × List MemPlace))(w:E)(i:w.ownsMap Pg 9 R b n f)(m:Maps.size f<=maxLen)(h:Maps.size f*16<=140737488355328):CallsIn Fence.wide 5 Pg 72 #[.func (.func 111) #[] #[.pointer (Q (T (J (U w)) 0 Z))]] (ZU w (N #[.map (Q b)] 75)) λe o=>∃(v:ZB) (g:List (List UInt8)),e=ZI v/\g.Perm (strKeys f) /\
   o.ownsRow (J (U (ZU w (N #[.map (Q b)] 75)))) 9 1 v (A g) ((g.mergeSort (λx y=>decide (x<=y))).map encStr)/\(v=Y Z 0 0 ↔ g=[])/\Below (J (U (ZU w (N #[.map (Q b)] 75)))) (ZU w (N #[.map (Q b)] 75)) o:=by
 have p:=i.lt;have l:SeqGives Fence.wide 2 Pg 111 #[.pointer (Q (T (J (U w)) 0 Z))] encStr (λg=>g.Perm (strKeys f)) (Maps.size f) (ZU w (N #[.map (Q b)] 75)):=
  AnyZ.keys_gives (ρ:=Tryz.keys73_ren) { Tryz.keys73 with } Fence.wide _ trivial rfl (by omega) (J (U w)) b n f _ (by simp) (by simp) (by
   obtain⟨r,j,hb,q,t,s⟩:=i
   exact⟨r,j,(Below.heap_alloc _ _ b p).k hb,q,t,s⟩)
 exact AnyZ.sorted_in Tryz.sorted72 Fence.wide 5 trivial trivial trivial trivial rfl (by omega) (Tryz.sorts72 _) (enters_of Tryz.func110 (by kernel_rfl) rfl) 111 #[.pointer (Q (T (J (U w)) 0 Z))] trivial (enters_of Tryz.func111 (by kernel_rfl) rfl) _ _ m h _ l
end Go.Proofs
namespace Go.Proofs.YtcnilonhfpimnaaGreatDoor.Vp
open RowKit Go.Sort
def mW (a:O_)(n j_:Nat)(f:Nat->au)(w:E)(hn:(n:Int)<=1048576)(hv:SlDeed w a n f)(C:∀i,i<n->cX (f i))(ZQ:∀i,i<n->fo (f i)):Qw Pg 11 #[.agg #[Y a n j_]] w λe w'=>∃b off m c:Nat,e=ZI (Y (Q (T b off Z)) m c)/\m=(ii f n).length/\RowStr w' b off m (nmF (ii f n))/\Below (J (U w)) w w':=by
 have HV:=ae hv;have t:=ae C;have HZ:=ae ZQ;clear hv C ZQ;have D:=ae (((BS w).alloc ly (N #[Y a n j_] 25)).alloc (by simp) (N #[] 9));have V:(ZU (ZU w (N #[Y a n j_] 25)) (N #[] 9)).cell? (T (J (U w)) 0 Z)=Q (Y a n j_):=by simp
 have H:=ae (show RowStr (ZU (ZU w (N #[Y a n j_] 25)) (N #[] 9)) (J (U w)+1) 0 0 (nmF []) from⟨by simp,λi hi=>absurd hi (NE _)⟩);obtain⟨ZP,ZN⟩:∃ZP,ZP=ii f n:=⟨_,rfl⟩
 rw[<-ZN];have ZS:=ae (show ZP=if bc f n=ZH then cG f n else [] from ZN);clear ZN;go_enter Tryz.func11,Tryz.ntmps11;go_wp2_with fail;generalize World.alloc (World.alloc w _) _=W at D V H ⊢;have hz:J (U w)<J (U W):=by have:=H.1;omega
 refine(uC a n j_ f _ hn (HV.aa D ly) t HZ).P ?_;rintro e S⟨rfl,g⟩;have s:=ae (D.k (g.P D.size));have E1:=ae (H.aa g ly);have k1:=(g.O (p:=(T (J (U w)) 0 Z)) hz).k V;have M:J (U w)<J (U S):=lj hz g.size;clear g D H V hz;have X:=ae (λh:bc f n=ZH=>(⟨er h,gj h⟩:(1<=n/\n<=400/\aQ (bw f) n=-1)/\∀p,p<n->(f p).f<=200));generalize bc f n=r at ZS X ⊢;cases r with
 |false =>obtain rfl:ZP=[]:=ZS.i;go_wp2;go_ret;exact⟨J (U w)+1,0,0,0,rfl,rfl,E1,s⟩
 |true =>
  obtain rfl:ZP=cG f n:=ZS.i;obtain⟨⟨hn1,hn4,-⟩,hl⟩:=X.i rfl;have O:=ae hl;clear hl;clear ZS X t;obtain⟨b,off,rfl,B⟩:=HV.resolve_left (by omega);have HR:=ae B;clear HV B;go_wp2;go_loopw [3,4] (λv i wr=>∃(k y o m G:Nat),k<=n/\i=.int I k/\v=Y (Q (T y o Z)) m G/\Hid (m=(cG f k).length)/\m<=G/\Hid (RowStr wr y o m (nmF (cG f k)))/\Hid (Below (J (U S)) S wr)) (λ_ i _=>n - (intOf i).toNat);case atStart=>exact⟨0,J (U w)+1,0,0,0,by omega,rfl,rfl,rfl,by omega,E1,a8 _ _⟩
  case round =>
   obtain⟨k,y,o,m,G,hk,rfl,rfl,t,hmc,HK,x⟩:=hrel;have k2:=(x.O (p:=(T (J (U w)) 0 Z)) M).k k1;by_cases ZR:k<n
   ·have hm0:m<=k*201:=by have h1:=t.i;have h2:=sH (f:=f) (k:=k) (λp hp=>O p (by omega));omega
    have hm:(m:Int)<=1048576:=by omega
    have hlk:=O.i k ZR;have HS:=ae (show cG f (k+1)=ig (cQ (cG f k) (f k).e.toList) (f k).m (f k).f from rfl);obtain⟨p0,p1,p2,p3,⟨a0,cap0,p4,q4⟩,⟨a1,cap1,p5,q5⟩⟩:=(HR.aa (s.k (x.P s.size)) ly).2 k ZR;clear q4 p4 p1 p2 p3;have Q5:=ae q5;clear q5;have ex:=(HR.aa (s.k (x.P s.size)) ly).1;have P5:=ae p5;clear p5;go_wp2_with (go_at_call 40;refine(sG y o m G (cG f k) (f k).e _ t hm (by omega) HK).P ?_;rintro e w2⟨b2,aq,m2,c2,rfl,ZV,bt,P,g⟩;have ZM:=ae ZV;have R2:=ae P;have D2:=ae g;have B2:=ae (x.k (g.P x.size));clear ZV P g);have ZV:m2<=k*201+1:=by have h1:=t.i;have h2:=ZM.i;have h3:=pq (cG f k) (f k).e.toList;omega
    have c2k:=bt;go_loopw [3,5] (λv i w3=>∃(j z l q c3:Nat),j<=(f k).f/\i=.int I j/\v=Y (Q (T z l Z)) q c3/\Hid (q=(ig (cQ (cG f k) (f k).e.toList) (f k).m j).length)/\q<=c3/\Hid (RowStr w3 z l q (nmF (ig (cQ (cG f k) (f k).e.toList) (f k).m j)))/\Hid (Below (J (U w2)) w2 w3)) (λ_ i _=>(f k).f - (intOf i).toNat);case atStart=>exact⟨0,b2,aq,m2,c2,by omega,rfl,rfl,ZM,by omega,R2,a8 _ _⟩
    case round =>
     obtain⟨j,z,l,q,c3,hj,rfl,rfl,ZT,hmc3,K,u⟩:=hrel;have D3:=ae (D2.k (u.P D2.size));have B3:=ae (B2.k (u.P B2.size));have k3:=(B3.O (p:=(T (J (U w)) 0 Z)) M).k k1;have p6:=(D3.O (p:=(T b (off+k*6+5) Z)) ex).k P5;have Q6:=ae (Q5.aa D3 ly);have fd:(q:Int)<=1048576:=by have h1:=ZT.i;have h2:=uL (cQ (cG f k) (f k).e.toList) (f k).m j;have h3:=ZM.i;omega
     by_cases la:j<(f k).f;{obtain⟨b4,off4,rfl,ZO⟩:=Q6.resolve_left (by omega);obtain⟨r0,r1,r2,r3⟩:=ZO.2 j la;clear r1 r2 r3 ZO;go_wp2_with (go_at_call 40;refine(sG z l q c3 _ ((f k).m j).e _ ZT fd (by omega) K).P ?_;rintro e w4⟨b5,ZL,m5,c5,rfl,L,hc5,R,g⟩;have H5:=ae L;have R5:=ae R;have B5:=ae (u.k (g.P u.size));clear L R g);exact⟨⟨j+1,b5,ZL,m5,c5,by omega,by go_num,rfl,H5,by omega,R5,B5⟩,by simp[intOf];omega⟩}
     ·obtain rfl:j=(f k).f:=by omega
      go_wp2;exact⟨⟨k+1,z,l,q,c3,by omega,by go_num,rfl,by rw[HS.i];exact ZT,by omega,by rw[HS.i];exact K,B3⟩,by simp[intOf];omega⟩
   ·obtain rfl:k=n:=by omega
    go_wp2;go_ret;exact⟨y,o,m,G,rfl,t,HK,s.k (x.P s.size)⟩
open Go.Maps Go.Shelf
def SetIs (w:E)(b n:Nat)(L:List (List UInt8)):Prop:=
 ∃D:DataW Unit,w.ownsMap Pg 9 unitElem b n D/\∀x,x∈L ↔ Maps.has D (.string x)=ZH
def Bm (w:E):SetIs (w.alloc (.map #[] 0)) (J (U w)) 0 []:=
 ⟨_,YF w Pg 9 unitElem,λx=>by simp[Maps.has]⟩
def SetIs.grown {w g:E}{f n:Nat}{L:List (List UInt8)}(h:SetIs w f n L){B:Nat}(hb:Below B w g)(j:f<B):SetIs g f n L:=by obtain⟨D,⟨l,b,h1,i,o,m⟩,h2⟩:=h;exact⟨D,⟨l,b,(hb.p f j).k h1,i,o,m⟩,h2⟩
def SetIs.lt {w:E}{b n:Nat}{L:List (List UInt8)}(h:SetIs w b n L):b<J (U w):=by obtain⟨D,h1,-⟩:=h;exact h1.lt
def Ex {D:DataW Unit}{L:List (List UInt8)}{x:List UInt8}(b:Maps.IsMap D)(h:∀z,z∈L ↔ Maps.has D (.string z)=ZH)(d:DataW Unit):∀z,z∈cQ L x ↔ Maps.has (D.put (.string x) d) (.string z)=ZH:=by
 intro z;rw[lT];by_cases e:z=x;{subst e;rw[Maps.has_put_same b (by simp[WideAt.IsKeyLit])];simp};{rw[YE (by simpa using e),<-h z];simp[e]}
def xX (i n:Nat)(L:List (List UInt8))(x:F_)(w:E)(hn:(n:Int)<=1048576)(q:x.size<=maxLen)(h:SetIs w i n L):Qw Pg 38 #[.map (Q i),.string x] w λe o=>e=ZI (.tuple #[])/\SetIs o i (n+1) (cQ L x.toList)/\w.grownBy o (Q i):=by obtain⟨D,f,m⟩:=h;have t:=ae f;have s:=ae (Ex f.isMap (x:=x.toList) m (.agg []));clear m f;have j:=QS (P:=Pg) (k:=9) ES q;have l:=ae j;clear j;go_enter Tryz.func38,Tryz.ntmps38;go_wp2_with (at_mapUpdate;refine WZ _ rfl _ _ _ 75 rfl 9 122 (SY ES) Tryz.underlying75 unitElem i n D rfl t (by unfold maxLen;omega) _ _ _ rfl rfl l _ [] unitElem_mk ?_;intro w1 g b;have p:=ae g;have r:=ae b;clear g b);go_end0;refine⟨rfl,⟨_,p,?_⟩,r⟩;have:=s.i;simp only[NJ] at this ⊢;exact this
def zq (l n:Nat)(L:List (List UInt8))(w:E)(hn:(n:Int)<=1048576)(hL:L.Pairwise (· < ·))(h:SetIs w l n L):Qw Pg 39 #[.map (Q l)] w λe j=>∃v,e=ZI v/\j.ownsRow (J (U w)) 9 1 v (A L) (L.map encStr)/\Below (J (U w)) w j:=by
 obtain⟨D,b,p⟩:=h;have hsz:=b.size_le;have i:L.Nodup:=hL.imp λh e=>by subst e;exact VQ _ h
 have o:L.Perm (strKeys D):=Collected.perm (left:=λ_=>ZA) ⟨i,λx=>by rw[p x];simp⟩ b (SY ES) ES (λ_=>rfl);have r:=ae o;have u:=ae i;have t:=ae hL;clear o i hL p;refine(XU (n:=6)).1 ?_;have hfK:Fence.wide.fn 73:=trivial;have hfS:Fence.wide.fn 72:=trivial;refine YX Tryz.func39 rfl trivial ?_ rfl;simp only[Tryz.ntmps39,QF,vF,IS,Nat.reduceAdd,Nat.reduceSub,QX,QY,SZ,RC,NR,OV]
 gi_wp2_with (first
  |(gi_at_call 73;refine(Tryz.maps_Keys_73 _ _).P ?_;rintro e j⟨rfl,rfl⟩)
  |(gi_at_call 72;refine(Tryz.slices_Sorted_keys_72_73 l n D unitElem w b (by unfold maxLen;omega) (by omega)).P ?_;rintro e j⟨v,q,rfl,s,g,hnil,hb⟩))
 go_ret;have f:q.Perm L:=s.k r.c;have m:q.mergeSort (λx y=>decide (x<=y))=L:=Hc (f.nodup_iff.2 u) t (λz=>f.mem_iff);rw[m,f.length_eq] at g;exact⟨v,rfl,ownsRow_base_a g (by simp),((a8 _ w).alloc ly _).k (hb.P (by simp))⟩
def SetIs.P {w:E}{f n b:Nat}{L:List (List UInt8)}(h:SetIs w f n L)(hn:n<=b):SetIs w f b L:=by obtain⟨D,h1,h2⟩:=h;exact⟨D,h1.P hn,h2⟩
def tS (a:O_)(n j_:Nat)(f:Nat->au)(w:E)(hn:(n:Int)<=1048576)(hv:SlDeed w a n f)(X:(n:Int)<=j_)(ZT:∀i,i<n->cX (f i))(M:∀i,i<n->fo (f i))(z:Tab w):Qw Pg 10 #[.agg #[Y a n j_]] w λe w'=>∃v,e=ZI v/\w'.ownsRow (J (U w)) 9 1 v (ii f n).length ((ii f n).map encStr)/\Below (J (U w)) w w':=by
 have ZN:=ae hv;have HM:=ae ZT;have HZ:=ae M;have HT:=ae z;clear hv ZT M z;have ZV:=ae ((BS w).alloc ly (N #[Y a n j_] 25));have ZM:(ZU w (N #[Y a n j_] 25)).cell? (T (J (U w)) 0 Z)=Q (Y a n j_):=by simp
 have hz:J (U w)<J (U (ZU w (N #[Y a n j_] 25))):=by simp
 obtain⟨ZP,z⟩:∃ZP,ZP=ii f n:=⟨_,rfl⟩
 rw[<-z];have K:=ae (show ZP=if bc f n=ZH then cG f n else [] from z);clear z;go_enter Tryz.func10,Tryz.ntmps10;go_wp2_with fail;generalize World.alloc w _=W at ZV ZM hz ⊢;refine(jL a n j_ f _ hn (ZN.aa ZV ly) X HM (HT.aa ZV HT.1)).P ?_;rintro e g⟨rfl,q⟩;have m:=ae (ZV.k (q.P ZV.size));have k1:=(q.O (p:=(T (J (U w)) 0 Z)) hz).k ZM;have aq:J (U w)<J (U g):=lj hz q.size;clear q ZV ZM hz;have S:=ae (λh:bc f n=ZH=>(⟨er h,gj h⟩:(1<=n/\n<=400/\aQ (bw f) n=-1)/\∀p,p<n->(f p).f<=200));generalize bc f n=r at K S ⊢;cases r with
 |false =>obtain rfl:ZP=[]:=K.i;go_wp2;go_ret;exact⟨_,rfl,⟨by simp,.inl ⟨rfl,rfl⟩⟩,m.i⟩
 |true =>
  obtain rfl:ZP=cG f n:=K.i;obtain⟨⟨hn1,hn4,-⟩,hl⟩:=S.i rfl;have bt:=ae hl;clear hl;clear K S HM;obtain⟨b,off,rfl,D⟩:=ZN.resolve_left (by omega);have u:=ae D;clear ZN D;have ZL:=ae (Bm g);have V:=ae ((BS g).alloc ly (.map #[] 0));have k2:=(V.O (p:=(T (J (U w)) 0 Z)) aq).k k1;have ex:=@run_makeMap Pg;go_wp2;clear ex k2;generalize g.alloc (.map #[] 0)=W1 at ZL V ⊢;obtain⟨o,G⟩:∃o,o=J (U g):=⟨_,rfl⟩
  rw[<-G] at ZL ⊢;have O:=ae G;clear G;go_loopw [15] (λi wr=>∃k:Nat,k<=n/\i=.int I k/\Hid (SetIs wr o (k*201) (cG f k))/\Hid (Below (J (U g)) g wr)) (λi _=>n - (intOf i).toNat);case atStart=>exact⟨0,by omega,rfl,ZL,V⟩
  case round =>
   obtain⟨k,hk,rfl,ZR,ZS⟩:=hrel;by_cases x:k<n
   ·obtain⟨o0,o1,o2,o3,⟨a0,s,o4,q4⟩,⟨a1,l,o5,q5⟩⟩:=u.2 k x;have t:=m.k (ZS.P m.size);have p0:=(t.O (p:=(T b (off+k*6) Z)) u.1).k o0;have p1:=(t.O (p:=(T b (off+k*6+1) Z)) u.1).k o1;have p2:=(t.O (p:=(T b (off+k*6+2) Z)) u.1).k o2;have p3:=(t.O (p:=(T b (off+k*6+3) Z)) u.1).k o3;have p4:=(t.O (p:=(T b (off+k*6+4) Z)) u.1).k o4;have p5:=(t.O (p:=(T b (off+k*6+5) Z)) u.1).k o5;have Q5:=ae q5;clear q4 q5 o0 o1 o2 o3 o4 o5 t;have hlk:=bt.i k x;have HS:=ae (show cG f (k+1)=ig (cQ (cG f k) (f k).e.toList) (f k).m (f k).f from rfl);have H:=ae ((BS wr).alloc ly (N #[.string (f k).e,.int I (f k).L,.int I (f k).M,.string (f k).H,Y a0 (f k).h s,Y a1 (f k).f l] 62));have C2:=ae (ZS.alloc ZS.size (N #[.string (f k).e,.int I (f k).L,.int I (f k).M,.string (f k).H,Y a0 (f k).h s,Y a1 (f k).f l] 62));have K2:=ae (ZR.grown H ZR.lt);have X5:=ae (show(ZU wr (N #[.string (f k).e,.int I (f k).L,.int I (f k).M,.string (f k).H,Y a0 (f k).h s,Y a1 (f k).f l] 62)).cell? (T (J (U wr)) 5 Z)=Q (Y a1 (f k).f l) by simp);have mz:=ZR.lt;go_wp2_with (go_at_call 38;refine(xX o (k*201) (cG f k) (f k).e _ (by omega) (HZ k x).1 K2).P ?_;rintro e w2⟨rfl,ZQ,C⟩;have S2:=ae ZQ;have B2:=ae (bg C2 C C2.size (λj e=>by cases e;exact VV O.c));have x6:=C.O X5.i (by simp;omega);clear ZQ C);clear x6;go_loopw [26] (λi w3=>∃j:Nat,j<=(f k).f/\i=.int I j/\Hid (SetIs w3 o (k*201+1+j) (ig (cQ (cG f k) (f k).e.toList) (f k).m j))/\Hid (Below (J (U g)) g w3)) (λi _=>(f k).f - (intOf i).toNat);case atStart=>exact⟨0,by omega,rfl,S2,B2⟩
    case round =>
     obtain⟨j,hj,rfl,B,y⟩:=hrel;by_cases P:j<(f k).f;{obtain⟨b4,off4,rfl,R⟩:=(Q5.aa (m.k (y.P m.size)) ly).resolve_left (by omega);obtain⟨r0,r1,r2,r3⟩:=R.2 j P;clear R;have C3:=ae (y.alloc y.size (N #[.string ((f k).m j).e,.bool ((f k).m j).ask,.bool ((f k).m j).has,.int I ((f k).m j).G] 65));have K3:=ae (B.grown ((BS wr).alloc ly (N #[.string ((f k).m j).e,.bool ((f k).m j).ask,.bool ((f k).m j).has,.int I ((f k).m j).G] 65)) B.lt);go_wp2_with (go_at_call 38;refine(xX o (k*201+1+j) _ ((f k).m j).e _ (by omega) ((HZ k x).2.2.2.2 j P) K3).P ?_;rintro e w4⟨rfl,L,ZO⟩;have S4:=ae L;have B4:=ae (bg C3 ZO C3.size (λj e=>by cases e;exact VV O.c));clear L ZO);exact⟨⟨j+1,by omega,by go_num,S4,B4⟩,by simp[intOf];omega⟩}
     ·obtain rfl:j=(f k).f:=by omega
      go_wp2;exact⟨⟨k+1,by omega,by go_num,by rw[HS.i];exact B.P (by omega),y⟩,by simp[intOf];omega⟩
   ·obtain rfl:k=n:=by omega
    have H:=ae (m.k (ZS.P m.size));go_wp2_with (go_at_call 39;refine(zq o (k*201) (cG f k) _ (by omega) (Bj f k) ZR).P ?_;rintro e w2⟨v,rfl,ho,q⟩;have O2:=ae (aE ho H.size);have B2:=ae (H.k (q.P H.size));clear ho q);go_ret;exact⟨v,rfl,O2,B2⟩
