import Derived.Test.YtcnilonhfpimnaaGreatDoorGE
import Derived.OneCell
import Derived.OwnWalk
import Derived.Maps.AppendAt
import Derived.Deep.RegionLaw
set_option linter.all false
set_option maxRecDepth 100000
set_option maxHeartbeats 4000000
open Go renaming Addr.mk->T,Value.slice->Z,Value.string->U,Value.int->J,Value.bool->ZF,Value.agg->ZJ,Obj.cells->N,IntKind.i64->I,World->E,Value->ZB,TypeId->ZK,Ending.returned->ZI,World.heap->z,World.ownsRow->ZX,World.alloc->ZU,World.cell?->ZV,World.frozen?->ZW,Proofs.Tryz.prog->Pg
open Option renaming none->Y,some->Q
open Bool renaming false->ZA,true->ZH
open Array renaming size->A
namespace Go.Proofs.YtcnilonhfpimnaaGreatDoor.Vp
open Tryz RowKit
variable {w:E}{n b size:Nat}{j i g m l f:ZB}{e:ZK}{P:Program}{o:Oper}{a:Act}{ZO:Exit->Act->E->Prop}{K:Act->E->Prop}{ZT:Prop}
def bY (g:B_):Nat->Bool
 |0=>ZH
 |k+1=>bY g k && aA (g k)
def ui{g:B_}{k:Nat}(h:k<=n)(hn:bY g n=ZH):bY g k=ZH:=by
 induction n with
 |zero =>
  obtain rfl:k=0:=by omega
  exact hn
 |succ m b =>
  by_cases e:k=m+1;{subst e;exact hn};{simp only[bY,j6] at hn;exact b (by omega) hn.1}
def jc{g:B_}{k:Nat}(h:k<n)(b:aA (g k)=ZA):bY g n=ZA:=by
 cases e:bY g n with
 |false=>rfl
 |true =>have h2:=ui (show k+1<=n by omega) e;simp[bY,b] at h2
def yQ (a0 a1:O_)(n0 c0 n1 c1:Nat)(w:E)(h0:(n0:Int)<=1048576)(h1:(n1:Int)<=1048576):Calls Pg 84 #[ZJ #[Z a0 n0 c0,Z a1 n1 c1]] w λe b=>e=ZI (J I ((n0:Int)+n1))/\Below (A (z w)) w b:=by go_enter func84,ntmps84;go_wp2;go_ret;exact⟨rfl,br.alloc ly _⟩
def uj (b off n j_:Nat)(g:B_)(w:E)(hn:(n:Int)<=1048576)(p:RowStr w b off n g):Calls Pg 87 #[Z (Q (T b off Y)) n j_] w λe s=>e=ZI (ZF (bY g n))/\Below (A (z w)) w s:=by
 have r:=ae p;clear p;go_enter func87,ntmps87;go_wp2;go_loopw [7] (λi wr=>∃k:Nat,k<=n/\i=J I k/\Hid (bY g k=ZH)/\Below (A (z w)) w wr) (λi _=>n - (intOf i).toNat);case atStart=>exact⟨0,by omega,rfl,rfl,a8 _ _⟩
 case round =>
  obtain⟨k,hk,rfl,o,q⟩:=hrel;have f:=ae q;clear q;by_cases h:k<n
  ·have c0:=(r.aa f ly).2 k h;go_wp2_with fail;refine(fu _ _).P ?_;rintro e w1⟨rfl,j⟩;have m:=ae (f.k (j.P f.size));clear j;cases hq:aA (g k) with
   |true =>have l:=ae hq;clear hq;go_wp2;exact⟨⟨k+1,by omega,by go_num,by show bY g (k+1)=ZH;simp[bY,o.i,l.i],m.i⟩,by simp[intOf];omega⟩
   |false =>have l:=ae hq;clear hq;go_wp2;go_ret;exact⟨bv (jc h l).c,m⟩
  ·have e:k=n:=by omega
   subst e;go_wp2;go_ret;exact⟨bv o.c,f⟩
def uk (a:O_)(j_:Nat)(w:E):Calls Pg 87 #[Z a 0 j_] w λe b=>e=ZI (ZF ZH)/\b=w:=by
 go_enter func87,ntmps87;go_wp2;go_loop [7] (λi=>i=J I 0) (λ_=>0);case atStart=>rfl
 case round =>subst hrel;go_wp2;go_ret;exact⟨rfl,rfl⟩
def ng (a:O_)(n j_:Nat)(g:B_)(w:E)(hn:(n:Int)<=1048576)(f:SlStr w a n g):Calls Pg 87 #[Z a n j_] w λe h=>e=ZI (ZF (bY g n))/\Below (A (z w)) w h:=by
 rcases f with rfl|⟨b,off,rfl,f⟩
 {exact(uk a j_ w).P λe h ⟨p,q⟩=>⟨p,by rw[q];exact a8 _ _⟩};{exact uj b off n j_ g w hn f}
def aK (g:B_):Nat->Bool
 |0=>ZH
 |1=>ZH
 |k+2=>aK g (k+1) && Op.bytesLess (g k).toList (g (k+1)).toList
def fR{g:B_}{k:Nat}(h:k<=n)(hn:aK g n=ZH):aK g k=ZH:=by
 induction n with
 |zero =>
  obtain rfl:k=0:=by omega
  exact hn
 |succ m b =>
  by_cases e:k=m+1;{subst e;exact hn}
  ·cases m with
   |zero =>
    obtain rfl:k=0:=by omega
    rfl
   |succ j =>simp only[aK,j6] at hn;exact b (by omega) hn.1
def kG{g:B_}{k:Nat}(h:k+1<n)(b:Op.bytesLess (g k).toList (g (k+1)).toList=ZA):aK g n=ZA:=by
 cases e:aK g n with
 |false=>rfl
 |true =>have h2:=fR (show k+2<=n by omega) e;simp[aK,b] at h2
def tF (b off n j_:Nat)(g:B_)(w:E)(hn:(n:Int)<=1048576)(p:RowStr w b off n g):Calls Pg 88 #[Z (Q (T b off Y)) n j_] w λe r=>e=ZI (ZF (aK g n))/\Below (A (z w)) w r:=by
 have m:=ae p;clear p;go_enter func88,ntmps88;go_wp2;go_loopw [3] (λi wr=>∃k:Nat,(k+1<=n\/k=0)/\i=J I ((k:Int)+1)/\Hid (aK g (k+1)=ZH)/\Below (A (z w)) w wr) (λi _=>n+1 - (intOf i).toNat);case atStart=>exact⟨0,.inr rfl,rfl,rfl,a8 _ _⟩
 case round =>
  obtain⟨k,hk,rfl,o,q⟩:=hrel;have f:=ae q;clear q;by_cases h:k+1<n
  ·have c0:=(m.aa f ly).2 k (by omega);have c1:=(m.aa f ly).2 (k+1) h;have hlt':(k:Int)+1<n:=by omega
   go_wp2_with fail;go_quiet (fail);have j:=ae (AD f nq);clear c0 c1;generalize wr.drewN nq=W at j ⊢;cases hq:Op.bytesLess (g k).toList (g (k+1)).toList with
   |true =>have l:=ae hq;clear hq;go_wp2;exact⟨⟨k+1,.inl (by omega),by go_num,by show aK g (k+2)=ZH;simp[aK,o.i,l.i],j.i⟩,by simp[intOf];omega⟩
   |false =>have l:=ae hq;clear hq;go_wp2;go_ret;exact⟨bv (kG h l).c,j⟩
  ·have hge:¬ (k:Int)+1<n:=by omega
   go_wp2;go_ret;exact⟨bv (fR (show n<=k+1 by omega) o.i).c,f.i⟩
def aU{ZY:Array Oper}(O:o.guard=Y)(s x:Operand)(t:ZK)
  (ZP:o.op=.call { callee:=.builtin .append,args:=#[s,x],argTypes:=#[t,t] })
  (f:Nat) (e:ZK) (i:TypeInfo) (ZZ:ZB) (size b:Nat) (S:P.underlying t=Q (.slice e)) (hi:P.info? e=Q i) (hz:i.zero=Q ZZ)
  (q:i.size=size) (G:i.bytes=b) (ZS:ZZ.cells.size=size) (ZR:0<size)
  (v:ZB) (n:Nat) (B:List ZB) (ZQ:a.eval s=v) (C:ZX w f e size v n B)
  (D:Addr) (m c:Nat) (news:List ZB) (L:a.eval x=Z (Q D) m c) (V:news.length=m*size) (y:∀j u,news[j]?=Q u->w.cell? (D.add j)=Q u) (h1:∀u∈news,u.oneCell'=ZH)
  (H:n+m<=maxLen) (l:(n+m)*b<=140737488355328) (r:f<=A (z w))
  (h:∀g p,p.ownsRow f e size g (n+m) (B++news)->w.grownBy p v.ownBlock->(g.ownBlock=v.ownBlock\/g.ownBlock=Q (A (z w)))->K (a.put o.dst g) p) :
  if Region.wanted o (yielded ZY a.tmps)=ZH then Oper.wp P o a w K ZO else ZT:=by
 have ZN:Region.wanted o (yielded ZY a.tmps)=ZH:=by simp[Region.wanted,O]
 rw[eT ZN];obtain⟨g,p,R,h2,W,h4,M⟩:=run_append_own_at (P:=P) w f t o.type e i ZZ size b S hi hz q G ZS ZR v n B C D m c news V y h1 H l r;unfold Oper.wp execOp;simp only[ZP,resolve,invoke,builtin,Sem.run_bind,Sem.run_pure,Result.andThen_ok,List.map_toArray,T7,VN,ZQ,L,R];exact h g p h2 W M
def cj (w:E){ZY:Array Oper}{rest:List Oper}(ZQ:o.guard=Y)(s x:Operand)(t:ZK)
  (S:o.op=.call { callee:=.builtin .append,args:=#[s,x],argTypes:=#[t,t] })
  (f:Nat) (e:ZK) (i:TypeInfo) (ZZ:ZB) (size b:Nat) (R:P.underlying t=Q (.slice e)) (hi:P.info? e=Q i) (hz:i.zero=Q ZZ)
  (q:i.size=size) (ZT:i.bytes=b) (H:ZZ.cells.size=size) (ZR:0<size)
  (v:ZB) (n:Nat) (B:List ZB) (M:a.eval s=v) (C:ZX w f e size v n B)
  (D:Addr) (m c:Nat) (news:List ZB) (K:a.eval x=Z (Q D) m c) (ZP:news.length=m*size) (y:∀j u,news[j]?=Q u->w.cell? (D.add j)=Q u) (h1:∀u∈news,u.oneCell'=ZH)
  (G:n+m<=maxLen) (l:(n+m)*b<=140737488355328) (r:f<=A (z w))
  (h:∀g p,p.ownsRow f e size g (n+m) (B++news)->w.grownBy p v.ownBlock->(g.ownBlock=v.ownBlock\/g.ownBlock=Q (A (z w)))->wpList P ZY ZO rest (a.put o.dst g) p) :
  wpList P ZY ZO (o::rest) a w:=by
 refine wpList_plain ZQ λK' ZS=>?_;obtain⟨g,p,O,h2,ZN,h4,L⟩:=run_append_own_at (P:=P) w f t o.type e i ZZ size b R hi hz q ZT H ZR v n B C D m c news ZP y h1 G l r;unfold Oper.wp execOp;simp only[S,resolve,invoke,builtin,Sem.run_bind,Sem.run_pure,Result.andThen_ok,List.map_toArray,T7,VN,M,K,O];exact ZS _ _ (h g p h2 ZN L)
def ep (w:E)(x:ZB)(t:ZK):∀j u,[x][j]?=Q u->(ZU w (N #[x] t)).cell? (((T (A (z w)) 0 Y):Addr).add j)=Q u:=by
 intro j u b;match j,b with
 |0,b=>simp at b;subst b;simp[Addr.add]
def dR{r:Array Oper}(ZQ:o.guard=Y)(s x:Operand)(t:ZK)
  (R:o.op=.call { callee:=.builtin .append,args:=#[s,x],argTypes:=#[t,t] })
  (f:Nat) (e:ZK) (i:TypeInfo) (ZZ:ZB) (size b:Nat) (O:P.underlying t=Q (.slice e)) (hi:P.info? e=Q i) (hz:i.zero=Q ZZ)
  (l:i.size=size) (G:i.bytes=b) (ZS:ZZ.cells.size=size) (ZR:0<size)
  (v:ZB) (n:Nat) (y:List ZB) (M:a.eval s=v) (B:ZX w f e size v n y)
  (D:Addr) (m c:Nat) (news:List ZB) (L:a.eval x=Z (Q D) m c) (ZP:news.length=m*size) (q:∀j u,news[j]?=Q u->w.cell? (D.add j)=Q u) (h1:∀u∈news,u.oneCell'=ZH)
  (H:n+m<=maxLen) (g:(n+m)*b<=140737488355328) (p:f<=A (z w))
  (h:∀ZY C,C.ownsRow f e size ZY (n+m) (y++news)->w.grownBy C v.ownBlock->(ZY=Z Y 0 0 ↔ v=Z Y 0 0/\m=0)->K (a.put o.dst ZY) C) :
  if Region.wanted o (yielded r a.tmps)=ZH then Oper.wp P o a w K ZO else ZT:=by
 have S:Region.wanted o (yielded r a.tmps)=ZH:=by simp[Region.wanted,ZQ]
 rw[eT S];exact wp_append_own w s x t R f e i ZZ size b O hi hz l G ZS ZR v n y M B D m c news L ZP q h1 H g p h
def K_{g:E}{B:Nat}{v:ZB}{f:List ZB}(h:ZX w b e size v n f)(hb:Below B w g)(j:A (z w)<=B):ZX g b e size v n f:=
 h.kept (row:=Y) ⟨hb.os,hb.tape,hb.output,hb.size,λk i _=>hb.p k (lj i j)⟩ (by cases v.ownBlock<;>simp)
def aE{base':Nat}{v:ZB}{i:List ZB}(h:ZX w b e size v n i)(hb:base'<=b):ZX w base' e size v n i:=by
 refine⟨h.1,?_⟩;rcases h.2 with h|⟨g,j_,f,j,l,r⟩
 {exact .inl h};{exact .inr ⟨g,j_,f,j,nX hb l,r⟩}
def kH (W:E)(b:Array ZB)(ty:ZK)(g j:Nat)(v:ZB)(h:g=A (z W))(f:b[j]?=Q v):(W.alloc (N b ty)).cell? (T g j Y)=Q v:=by subst h;simp[f]
def iA{v:ZB}{i:List ZB}(h:ZX w b e 1 v n i)(hn:0<n):∃g j_,v=Z (Q (T g 0 Y)) n j_:=by
 rcases h.2 with⟨_,h0⟩|⟨g,j_,cur,f,_⟩
 {omega};{exact⟨g,j_,f⟩}
def lM (g:B_)(n:Nat):List ZB:=(List.range n).map λi=>U (g i)
def su (g:B_)(n:Nat):lM g (n+1)=lM g n++[U (g n)]:=by simp[lM,PI]
def AN{f:Nat}{v:ZB}{g:B_}(h:ZX w f e 1 v n (lM g n)):∃a j_,v=Z a n j_/\SlStr w a n g:=by
 rcases h.2 with⟨rfl,rfl⟩|⟨b,j_,cur,rfl,hb,j,_⟩
 {exact⟨Y,0,rfl,.inl rfl⟩}
 ·refine⟨_,j_,rfl,.inr ⟨b,0,rfl,lt_of_block j,λi hi=>?_⟩⟩;have:=h.cells (g:=b) rfl i (U (g i)) (by simp[lM,hi]);rw[I5];have l:((T b 0 Y):Addr).add i=(T b i Y):=by unfold Addr.add;split<;>simp_all
  rwa[l] at this
def pV (b off n c0:Nat)(t:ZB)(a1:O_)(n1 c1:Nat)(u:t=Z a1 n1 c1)(f:Nat->Source)(w:E)(hn:(n:Int)<=1048576)(x:RowSource w b off n f):Calls Pg 85 #[ZJ #[Z (Q (T b off Y)) n c0,t]] w λe ZZ=>∃a j_,e=ZI (Z a n j_)/\SlStr ZZ a n (λi=>(f i).e)/\Below (A (z w)) w ZZ:=by
 subst u;have D:=ae x;clear x;obtain⟨r,hi,s,ZY,B⟩:=NP gX;have ZS:=ae ((BS w).alloc ly (N #[Z (Q (T b off Y)) n c0,Z a1 n1 c1] 29));go_enter func85,ntmps85;go_wp2;go_loopw [3,9] (λv i wr=>∃k:Nat,k<=n/\i=J I k/\Hid (wr.ownsRow (A (z w)) 9 1 v k (lM (λi=>(f i).e) k))/\Below (A (z w)) w wr) (λ_ i _=>n - (intOf i).toNat);case atStart=>exact⟨0,by omega,rfl,CP _ _ _ _,ZS⟩
 case round =>
  obtain⟨k,hk,rfl,q,o⟩:=hrel;have p:=ae o;have ZT:A (z w)<=A (z wr):=o.size;clear o;by_cases C:k<n;{obtain⟨d0,d1⟩:=(D.2 k C).aa p D.1;go_wp2_with (at_builtin;refine DN _ rfl (.tmp 13) (.tmp 16) 43 rfl (A (z w)) 9 r (U ⟨#[]⟩) 1 16 NH hi s ZY B rfl (by decide) _ k (lM (λi=>(f i).e) k) (by simp[Act.eval]) ((q.alloc _).alloc _) (T (A (z wr)+1) 0 Y) 1 1 [U (f k).e] (by simp[Act.eval]) rfl (by rw[show (A (z wr))+1=A (z (ZU wr (N #[U (f k).e,U (f k).H] 82))) by simp];exact ep _ _ _) (by simp[Value.oneCell']) (by unfold maxLen;omega) (by omega) (by simp;omega) ?_;intro v' w2 h g m;have H:=ae h;have G:=ae (bg ((p.alloc ZT (N #[U (f k).e,U (f k).H] 82)).alloc (by simp;omega) (N #[U (f k).e] 9)) g (by simp;omega) (λj e=>(q.lt j e).1));clear h g m);exact⟨⟨k+1,by omega,by go_num,by show World.ownsRow _ _ _ _ _ _ _;rw[su];exact H,G⟩,by simp[intOf];omega⟩}
  ·have e:k=n:=by omega
   subst e;obtain⟨a,j_,rfl,l⟩:=AN q;have y:=ae l;clear l;go_wp2;go_ret;exact⟨a,j_,rfl,y,p⟩
def pW (a0:O_)(c0:Nat)(a1:O_)(n1 c1:Nat)(g:B_)(w:E):Calls Pg 85 #[ZJ #[Z a0 0 c0,Z a1 n1 c1]] w λe f=>∃a j_,e=ZI (Z a 0 j_)/\SlStr f a 0 g/\Below (A (z w)) w f:=by
 have h:=ae ((BS w).alloc ly (N #[Z a0 0 c0,Z a1 n1 c1] 29));go_enter func85,ntmps85;go_wp2;go_loopw [3,9] (λv i wr=>v=Z Y 0 0/\i=J I 0/\Below (A (z w)) w wr) (λ_ _ _=>0);case atStart=>exact⟨rfl,rfl,h⟩
 case round =>obtain⟨rfl,rfl,b⟩:=hrel;have j:=ae b;clear b;go_wp2;go_ret;exact⟨Y,0,rfl,.inl rfl,j⟩
def pX (a0:O_)(n c0:Nat)(a1:O_)(n1 c1:Nat)(f:Nat->Source)(w:E)(hn:(n:Int)<=1048576)(g:Qy w a0 n f):Calls Pg 85 #[ZJ #[Z a0 n c0,Z a1 n1 c1]] w λe h=>∃a j_,e=ZI (Z a n j_)/\SlStr h a n (λi=>(f i).e)/\Below (A (z w)) w h:=by
 rcases g with rfl|⟨b,off,rfl,g⟩
 {exact pW a0 c0 a1 n1 c1 _ w};{exact pV b off n c0 _ a1 n1 c1 rfl f w hn g}
def pY (b off n c0:Nat)(x:ZB)(a1:O_)(n1 c1:Nat)(y:x=Z a1 n1 c1)(f:Nat->Target)(w:E)(hn:(n:Int)<=1048576)(ZZ:RowTarget w b off n f):Calls Pg 86 #[ZJ #[x,Z (Q (T b off Y)) n c0]] w λe B=>∃a j_,e=ZI (Z a n j_)/\SlStr B a n (λi=>(f i).e)/\Below (A (z w)) w B:=by
 subst y;have G:=ae ZZ;clear ZZ;obtain⟨r,hi,s,C,D⟩:=NP gX;have K:=ae ((BS w).alloc ly (N #[Z a1 n1 c1,Z (Q (T b off Y)) n c0] 29));go_enter func86,ntmps86;go_wp2;go_loopw [3,9] (λv i wr=>∃k:Nat,k<=n/\i=J I k/\Hid (wr.ownsRow (A (z w)) 9 1 v k (lM (λi=>(f i).e) k))/\Below (A (z w)) w wr) (λ_ i _=>n - (intOf i).toNat);case atStart=>exact⟨0,by omega,rfl,CP _ _ _ _,K⟩
 case round =>
  obtain⟨k,hk,rfl,q,o⟩:=hrel;have p:=ae o;have H:A (z w)<=A (z wr):=o.size;clear o;by_cases ZT:k<n;{obtain⟨d0,t,u,d1,_⟩:=(G.2 k ZT).aa p ly G.1;go_wp2_with (at_builtin;refine DN _ rfl (.tmp 13) (.tmp 16) 43 rfl (A (z w)) 9 r (U ⟨#[]⟩) 1 16 NH hi s C D rfl (by decide) _ k (lM (λi=>(f i).e) k) (by simp[Act.eval]) ((q.alloc _).alloc _) (T (A (z wr)+1) 0 Y) 1 1 [U (f k).e] (by simp[Act.eval]) rfl (by rw[show (A (z wr))+1=A (z (ZU wr (N #[U (f k).e,Z t (f k).h u] 86))) by simp];exact ep _ _ _) (by simp[Value.oneCell']) (by unfold maxLen;omega) (by omega) (by simp;omega) ?_;intro v' w2 h g m;have ZR:=ae h;have ZS:=ae (bg ((p.alloc H (N #[U (f k).e,Z t (f k).h u] 86)).alloc (by simp;omega) (N #[U (f k).e] 9)) g (by simp;omega) (λj e=>(q.lt j e).1));clear h g m);exact⟨⟨k+1,by omega,by go_num,by show World.ownsRow _ _ _ _ _ _ _;rw[su];exact ZR,ZS⟩,by simp[intOf];omega⟩}
  ·have e:k=n:=by omega
   subst e;obtain⟨a,j_,rfl,l⟩:=AN q;have ZY:=ae l;clear l;go_wp2;go_ret;exact⟨a,j_,rfl,ZY,p⟩
def pZ (a0:O_)(c0:Nat)(a1:O_)(n1 c1:Nat)(g:B_)(w:E):Calls Pg 86 #[ZJ #[Z a1 n1 c1,Z a0 0 c0]] w λe f=>∃a j_,e=ZI (Z a 0 j_)/\SlStr f a 0 g/\Below (A (z w)) w f:=by
 have h:=ae ((BS w).alloc ly (N #[Z a1 n1 c1,Z a0 0 c0] 29));go_enter func86,ntmps86;go_wp2;go_loopw [3,9] (λv i wr=>v=Z Y 0 0/\i=J I 0/\Below (A (z w)) w wr) (λ_ _ _=>0);case atStart=>exact⟨rfl,rfl,h⟩
 case round =>obtain⟨rfl,rfl,b⟩:=hrel;have j:=ae b;clear b;go_wp2;go_ret;exact⟨Y,0,rfl,.inl rfl,j⟩
def qb (a0:O_)(n c0:Nat)(a1:O_)(n1 c1:Nat)(f:Nat->Target)(w:E)(hn:(n:Int)<=1048576)(g:Qx w a0 n f):Calls Pg 86 #[ZJ #[Z a1 n1 c1,Z a0 n c0]] w λe h=>∃a j_,e=ZI (Z a n j_)/\SlStr h a n (λi=>(f i).e)/\Below (A (z w)) w h:=by
 rcases g with rfl|⟨b,off,rfl,g⟩
 {exact pZ a0 c0 a1 n1 c1 _ w};{exact pY b off n c0 _ a1 n1 c1 rfl f w hn g}
def xP (w:E)(e:ZK)(size:Nat):(ZU w (N #[] e)).ownsRow (A (z w)) e size (Z (Q (T (A (z w)) 0 Y)) 0 0) 0 []:=
 ⟨by simp,.inr ⟨A (z w),0,#[],rfl,p7 _,gM w _,p7 _,by unfold maxLen;omega,by simp,by simp⟩⟩
def bc (f:Nat->au)(n:Nat):Bool:=decide ((dE f n).1=0)
def er{f:Nat->au}(h:bc f n=ZH):1<=n/\n<=400/\aQ (bw f) n=-1:=by
 have h1:(dE f n).1=0:=OU h;unfold dE at h1;split at h1;{simp at h1};{rename_i h2;refine⟨by omega,by omega,?_⟩;split at h1;{simp at h1};{rename_i g;exact PU λb=>g b}}
def gj{f:Nat->au}(h:bc f n=ZH):∀p,p<n->(f p).f<=200:=by
 intro p b;have h1:=eN (er h).2.2 p b;simp only[bw,j6,kindOk] at h1;obtain⟨_,h2⟩:=h1;split at h2;{simp[aY] at h2;omega};{split at h2;{simp[aY] at h2;omega};{split at h2;{simp[cC] at h2;omega};{simp at h2}}}
def fq{f:Nat->au}(h:bc f n=ZH):∀p,p<n->∀j,j<(f p).f->((f p).m j).ask=ZH->0<=((f p).m j).G/\((f p).m j).G.toNat<p/\(f ((f p).m j).G.toNat).e.toList=((f p).m j).e.toList:=by
 intro p o j g q;have h1:=eN (er h).2.2 p o;simp only[bw,j6,kindOk] at h1;obtain⟨_,h2⟩:=h1;have i:bX f p (f p) (f p).f=ZH:=by
  split at h2;{simp[aY] at h2;omega};{split at h2;{simp[aY] at h2;omega};{split at h2;{simp only[cC,j6] at h2;exact h2.2};{simp at h2}}}
 have b:=lI i j g;simp only[dW,q,Y2,j6,nD,TS] at b;obtain⟨_,⟨⟨_,m⟩,h5⟩,l⟩:=b;exact⟨m,by omega,l⟩
def qd{f:Nat->au}{p:Nat}(h:bj f p n=ZH):∀i,i<n->(f i).e.toList≠(f p).e.toList:=by
 induction n with
 |zero=>intro i hi;omega
 |succ n b =>
  simp only[bj,j6,Bool.not_eq_true',XP] at h;intro i hi;by_cases e:i=n;{subst e;exact h.2};{exact b h.1 i (by omega)}
def j8{f:Nat->au}(h:bc f n=ZH):∀i j,i<n->j<n->(f i).e.toList=(f j).e.toList->i=j:=by
 have h1:(dE f n).1=0:=OU h;have h2:aQ (λp=>bj f p p) n=-1:=by
  unfold dE at h1;split at h1;{simp at h1};{split at h1;{simp at h1};{split at h1;{simp at h1};{rename_i g;exact PU λm=>g m}}}
 have g:=eN h2;intro i j hi l e;rcases VO i j with b|rfl|b;{exact absurd e (qd (g j l) i b)};{rfl};{exact absurd e.c (qd (g i hi) j b)}
def fG:au:={ e:=⟨#[]⟩,L:=0,M:=0,H:=⟨#[]⟩,h:=0,q:=λ_=>⟨0,⟨#[]⟩,0⟩,f:=0,m:=λ_=>⟨⟨#[]⟩,ZA,ZA,0⟩ }
def dF (L:List au)(i:Nat):au:=L.getD i fG
def jF (f:Nat->au)(t:F_)(n:Nat):Int:=aQ (λi=>!((f i).e.toList == t.toList)) n
structure DBox (w:E)(b:Nat)(v0 v1 v2 v3 v4 v5:ZB):Prop where
 lt:b<A (z w)
 c0:ZV w (T b 0 Y)=Q v0/\ZW w (T b 0 Y)=ZA
 c1:ZV w (T b 1 Y)=Q v1/\ZW w (T b 1 Y)=ZA
 c2:ZV w (T b 2 Y)=Q v2/\ZW w (T b 2 Y)=ZA
 c3:ZV w (T b 3 Y)=Q v3/\ZW w (T b 3 Y)=ZA
 c4:ZV w (T b 4 Y)=Q v4/\ZW w (T b 4 Y)=ZA
 c5:ZV w (T b 5 Y)=Q v5/\ZW w (T b 5 Y)=ZA
def DBox.ad{w':E}{n:ZB}(h:DBox w b j i g m n l)(hz:A (z w)<=A (z w'))(e:w'.heap[b]?=w.heap[b]?):DBox w' b j i g m n l:=
 have c:∀o,ZV w' (T b o Y)=ZV w (T b o Y):=λo=>cq (a:=(T b o Y)) e;have f:∀o,ZW w' (T b o Y)=ZW w (T b o Y):=λo=>NG (a:=(T b o Y)) e
 ⟨lj h.lt hz,⟨(c 0).k h.c0.1,(f 0).k h.c0.2⟩,⟨(c 1).k h.c1.1,(f 1).k h.c1.2⟩,⟨(c 2).k h.c2.1,(f 2).k h.c2.2⟩,⟨(c 3).k h.c3.1,(f 3).k h.c3.2⟩,⟨(c 4).k h.c4.1,(f 4).k h.c4.2⟩,⟨(c 5).k h.c5.1,(f 5).k h.c5.2⟩⟩
def DBox.aa{n:E}{B:Nat}(h:DBox w b i g f l m j)(hb:Below B w n)(o:b<B):DBox n b i g f l m j:=h.ad hb.size (hb.p b o)
def DBox.far (h:DBox w b i g f l m j){p:Addr}(n:p.block≠b)(v:ZB):DBox (w.setCell p v) b i g f l m j:=h.ad (by simp) (qh _ _ _ _ (λe=>n e.c))
def DBox.set1 (h:DBox w b g m f j l i)(v:ZB):DBox (w.setCell (T b 1 Y) v) b g v f j l i:=
 ⟨by simpa using h.lt,⟨(sq _ _ _ _ (by simp)).k h.c0.1,by simpa using h.c0.2⟩,⟨BO _ _ _ (by rw[h.c1.1];rfl),by simpa using h.c1.2⟩,⟨(sq _ _ _ _ (by simp)).k h.c2.1,by simpa using h.c2.2⟩,⟨(sq _ _ _ _ (by simp)).k h.c3.1,by simpa using h.c3.2⟩,⟨(sq _ _ _ _ (by simp)).k h.c4.1,by simpa using h.c4.2⟩,⟨(sq _ _ _ _ (by simp)).k h.c5.1,by simpa using h.c5.2⟩⟩
def DBox.set2 (h:DBox w b g f m j l i)(v:ZB):DBox (w.setCell (T b 2 Y) v) b g f v j l i:=
 ⟨by simpa using h.lt,⟨(sq _ _ _ _ (by simp)).k h.c0.1,by simpa using h.c0.2⟩,⟨(sq _ _ _ _ (by simp)).k h.c1.1,by simpa using h.c1.2⟩,⟨BO _ _ _ (by rw[h.c2.1];rfl),by simpa using h.c2.2⟩,⟨(sq _ _ _ _ (by simp)).k h.c3.1,by simpa using h.c3.2⟩,⟨(sq _ _ _ _ (by simp)).k h.c4.1,by simpa using h.c4.2⟩,⟨(sq _ _ _ _ (by simp)).k h.c5.1,by simpa using h.c5.2⟩⟩
def DBox.set3 (h:DBox w b i g f m l j)(v:ZB):DBox (w.setCell (T b 3 Y) v) b i g f v l j:=
 ⟨by simpa using h.lt,⟨(sq _ _ _ _ (by simp)).k h.c0.1,by simpa using h.c0.2⟩,⟨(sq _ _ _ _ (by simp)).k h.c1.1,by simpa using h.c1.2⟩,⟨(sq _ _ _ _ (by simp)).k h.c2.1,by simpa using h.c2.2⟩,⟨BO _ _ _ (by rw[h.c3.1];rfl),by simpa using h.c3.2⟩,⟨(sq _ _ _ _ (by simp)).k h.c4.1,by simpa using h.c4.2⟩,⟨(sq _ _ _ _ (by simp)).k h.c5.1,by simpa using h.c5.2⟩⟩
def DBox.set4 (h:DBox w b i g f l m j)(v:ZB):DBox (w.setCell (T b 4 Y) v) b i g f l v j:=
 ⟨by simpa using h.lt,⟨(sq _ _ _ _ (by simp)).k h.c0.1,by simpa using h.c0.2⟩,⟨(sq _ _ _ _ (by simp)).k h.c1.1,by simpa using h.c1.2⟩,⟨(sq _ _ _ _ (by simp)).k h.c2.1,by simpa using h.c2.2⟩,⟨(sq _ _ _ _ (by simp)).k h.c3.1,by simpa using h.c3.2⟩,⟨BO _ _ _ (by rw[h.c4.1];rfl),by simpa using h.c4.2⟩,⟨(sq _ _ _ _ (by simp)).k h.c5.1,by simpa using h.c5.2⟩⟩
def DBox.set5 (h:DBox w b i g f j l m)(v:ZB):DBox (w.setCell (T b 5 Y) v) b i g f j l v:=
 ⟨by simpa using h.lt,⟨(sq _ _ _ _ (by simp)).k h.c0.1,by simpa using h.c0.2⟩,⟨(sq _ _ _ _ (by simp)).k h.c1.1,by simpa using h.c1.2⟩,⟨(sq _ _ _ _ (by simp)).k h.c2.1,by simpa using h.c2.2⟩,⟨(sq _ _ _ _ (by simp)).k h.c3.1,by simpa using h.c3.2⟩,⟨(sq _ _ _ _ (by simp)).k h.c4.1,by simpa using h.c4.2⟩,⟨BO _ _ _ (by rw[h.c5.1];rfl),by simpa using h.c5.2⟩⟩
def jG (w:E)(h g f j b i:ZB)(t:ZK):DBox (ZU w (N #[h,g,f,j,b,i] t)) (A (z w)) h g f j b i:=by refine⟨by simp,?_,?_,?_,?_,?_,?_⟩<;>simp
def DJ (w:E)(g f b i j h u0 u1 u2 u3 u4 u5:ZB)(t:ZK):DBox (ZU (ZU w (N #[g,f,b,i,j,h] t)) (N #[u0,u1,u2,u3,u4,u5] t)) (A (z w)) g f b i j h/\DBox (ZU (ZU w (N #[g,f,b,i,j,h] t)) (N #[u0,u1,u2,u3,u4,u5] t)) (A (z w)+1) u0 u1 u2 u3 u4 u5:=by
 have hz:A (z (ZU w (N #[g,f,b,i,j,h] t)))=A (z w)+1:=by simp
 refine⟨(jG w g f b i j h t).aa ((a8 (A (z w)+1) _).alloc (by omega) _) (eL _),?_⟩;have:=jG (ZU w (N #[g,f,b,i,j,h] t)) u0 u1 u2 u3 u4 u5 t;rw[hz] at this;exact this
def DK (b off m c:Nat)(g:Nat->au)(t:F_)(w:E)(hmm:(m:Int)<=1048576)(f:Qv w b off m g):Calls Pg 122 #[ZJ #[Z (Q (T b off Y)) m c],U t] w λe u=>e=ZI (J I (jF g t m))/\Below (A (z w)) w u:=by
 obtain⟨W,h⟩:∃W:E,ZU w (N #[Z (Q (T b off Y)) m c] 25)=W:=⟨_,rfl⟩
 obtain⟨o,-,-⟩:=nb1 h;have l:=ae h;clear h;have s:=ae (f.aa o ly);have k0:ZV W (T (A (z w)) 0 Y)=Q (Z (Q (T b off Y)) m c):=by rw[<-l.i];simp
 clear f;go_enter func122,ntmps122;go_wp2;rw[l.i];clear l;go_loop [5] (λi=>∃k:Nat,k<=m/\i=J I k/\Hid (∀j,j<k->(!((g j).e.toList == t.toList))=ZH)) (λi=>m - (intOf i).toNat);case atStart=>exact⟨0,by omega,rfl,λj r=>absurd r (NF _)⟩
 case round =>
  obtain⟨k,hk,rfl,p⟩:=hrel;by_cases n:k<m
  ·obtain⟨c0,_⟩:=s.2 k n;cases hb:((g k).e.toList == t.toList) with
   |true =>have q:=ae hb;go_wp2;go_ret;refine⟨?_,o⟩;rw[jF,fQ n (by rw[q.i];rfl) p.i];rfl
   |false =>
    have q:=ae hb;go_wp2;refine⟨⟨k+1,by omega,by go_num,λj r=>?_⟩,by simp[intOf];omega⟩;by_cases e:j=k;{subst e;rw[q.i];rfl};{exact p j (by omega)}
  ·have e:k=m:=by omega
   subst e;go_wp2;go_ret;refine⟨?_,o⟩;rw[jF,ej p.i];rfl
def DO (a:O_)(c:Nat)(g:Nat->au)(t:F_)(w:E):Calls Pg 122 #[ZJ #[Z a 0 c],U t] w λe h=>e=ZI (J I (jF g t 0))/\Below (A (z w)) w h:=by
 have b:=ae ((BS w).alloc ly (N #[Z a 0 c] 25));have f:ZV (ZU w (N #[Z a 0 c] 25)) (T (A (z w)) 0 Y)=Q (Z a 0 c):=by simp
 go_enter func122,ntmps122;go_wp2;generalize World.alloc w _=W at b f ⊢;go_loop [5] (λi=>i=J I 0) (λ_=>0);case atStart=>rfl
 case round =>subst hrel;go_wp2;go_ret;exact⟨rfl,b⟩
def DU (a:O_)(m c:Nat)(g:Nat->au)(t:F_)(w:E)(f:(m:Int)<=1048576)(h:SlDeed w a m g):Calls Pg 122 #[ZJ #[Z a m c],U t] w λe j=>e=ZI (J I (jF g t m))/\Below (A (z w)) w j:=by
 by_cases hz:m=0;{subst hz;exact DO a c g t w};{obtain⟨b,off,rfl,i⟩:=h.resolve_left hz;exact DK b off m c g t w f i}
