import Derived.Test.YtcnilonhfpimnaaGreatDoorGE
import Derived.OneCell
import Derived.OwnWalk
import Derived.Maps.AppendAt
import Derived.Deep.RegionLaw
set_option linter.all false
set_option maxRecDepth 100000
set_option maxHeartbeats 4000000
open Go renaming Addr.mk->T,Value.slice->Y,Value.string->U,Value.int->J,Value.bool->ZF,Value.agg->ZJ,Obj.cells->N,IntKind.i64->I,World->E,Value->ZB,TypeId->ZK,Ending.returned->ZI,World.heap->z,World.ownsRow->ZY,World.alloc->ZV,World.cell?->ZW,World.frozen?->ZX,World.setCell->ZU,Proofs.Tryz.prog->Pg,Calls->Qw
open Option renaming none->Z,some->Q
open Bool renaming false->ZA,true->ZH
open Array renaming size->A
namespace Go.Proofs.YtcnilonhfpimnaaGreatDoor.Vp
open Tryz RowKit
variable {w:E}{n b size:Nat}{g i m j l f:ZB}{e:ZK}{P:Program}{o:Oper}{a:Act}{ZO:Exit->Act->E->Prop}{K:Act->E->Prop}{ZT:Prop}
def bY (g:B_):Nat->Bool
 |0=>ZH
 |k+1=>bY g k && aA (g k)
def ui{g:B_}{k:Nat}(h:k<=n)(hn:bY g n=ZH):bY g k=ZH:=by
 induction n with
 |zero =>
  obtain rfl:k=0:=by omega
  exact hn
 |succ m b =>
  by_cases e:k=m+1;{subst e;exact hn};{simp only[bY,j6] at hn;exact b (by omega) hn.1}
def jc{g:B_}{k:Nat}(h:k<n)(b:aA (g k)=ZA):bY g n=ZA:=by
 cases e:bY g n with
 |false=>rfl
 |true =>have h2:=ui (show k+1<=n by omega) e;simp[bY,b] at h2
def yQ (a0 a1:O_)(n0 c0 n1 c1:Nat)(w:E)(h0:(n0:Int)<=1048576)(h1:(n1:Int)<=1048576):Qw Pg 84 #[ZJ #[Y a0 n0 c0,Y a1 n1 c1]] w λe b=>e=ZI (J I ((n0:Int)+n1))/\Below (A (z w)) w b:=by go_enter func84,ntmps84;go_wp2;go_ret;exact⟨rfl,br.alloc ly _⟩
def uj (b off n j_:Nat)(g:B_)(w:E)(hn:(n:Int)<=1048576)(o:RowStr w b off n g):Qw Pg 87 #[Y (Q (T b off Z)) n j_] w λe r=>e=ZI (ZF (bY g n))/\Below (A (z w)) w r:=by
 have s:=ae o;clear o;go_enter func87,ntmps87;go_wp2;go_loopw [7] (λi wr=>∃k:Nat,k<=n/\i=J I k/\Hid (bY g k=ZH)/\Below (A (z w)) w wr) (λi _=>n - (intOf i).toNat);case atStart=>exact⟨0,by omega,rfl,rfl,a8 _ _⟩
 case round =>
  obtain⟨k,hk,rfl,q,m⟩:=hrel;have f:=ae m;clear m;by_cases j:k<n
  ·have c0:=(s.aa f ly).2 k j;go_wp2_with fail;refine(fu _ _).P ?_;rintro e w1⟨rfl,h⟩;have p:=ae (f.k (h.P f.size));clear h;cases hq:aA (g k) with
   |true =>have l:=ae hq;clear hq;go_wp2;exact⟨⟨k+1,by omega,by go_num,by show bY g (k+1)=ZH;simp[bY,q.i,l.i],p.i⟩,by simp[intOf];omega⟩
   |false =>have l:=ae hq;clear hq;go_wp2;go_ret;exact⟨bv (jc j l).c,p⟩
  ·have e:k=n:=by omega
   subst e;go_wp2;go_ret;exact⟨bv q.c,f⟩
def uk (a:O_)(j_:Nat)(w:E):Qw Pg 87 #[Y a 0 j_] w λe b=>e=ZI (ZF ZH)/\b=w:=by
 go_enter func87,ntmps87;go_wp2;go_loop [7] (λi=>i=J I 0) (λ_=>0);case atStart=>rfl
 case round =>subst hrel;go_wp2;go_ret;exact⟨rfl,rfl⟩
def ng (a:O_)(n j_:Nat)(g:B_)(w:E)(hn:(n:Int)<=1048576)(f:SlStr w a n g):Qw Pg 87 #[Y a n j_] w λe h=>e=ZI (ZF (bY g n))/\Below (A (z w)) w h:=by
 rcases f with rfl|⟨b,off,rfl,f⟩
 {exact(uk a j_ w).P λe h ⟨p,q⟩=>⟨p,by rw[q];exact a8 _ _⟩};{exact uj b off n j_ g w hn f}
def aK (g:B_):Nat->Bool
 |0=>ZH
 |1=>ZH
 |k+2=>aK g (k+1) && Op.bytesLess (g k).toList (g (k+1)).toList
def fR{g:B_}{k:Nat}(h:k<=n)(hn:aK g n=ZH):aK g k=ZH:=by
 induction n with
 |zero =>
  obtain rfl:k=0:=by omega
  exact hn
 |succ m b =>
  by_cases e:k=m+1;{subst e;exact hn}
  ·cases m with
   |zero =>
    obtain rfl:k=0:=by omega
    rfl
   |succ j =>simp only[aK,j6] at hn;exact b (by omega) hn.1
def kG{g:B_}{k:Nat}(h:k+1<n)(b:Op.bytesLess (g k).toList (g (k+1)).toList=ZA):aK g n=ZA:=by
 cases e:aK g n with
 |false=>rfl
 |true =>have h2:=fR (show k+2<=n by omega) e;simp[aK,b] at h2
def tF (b off n j_:Nat)(g:B_)(w:E)(hn:(n:Int)<=1048576)(o:RowStr w b off n g):Qw Pg 88 #[Y (Q (T b off Z)) n j_] w λe r=>e=ZI (ZF (aK g n))/\Below (A (z w)) w r:=by
 have q:=ae o;clear o;go_enter func88,ntmps88;go_wp2;go_loopw [3] (λi wr=>∃k:Nat,(k+1<=n\/k=0)/\i=J I ((k:Int)+1)/\Hid (aK g (k+1)=ZH)/\Below (A (z w)) w wr) (λi _=>n+1 - (intOf i).toNat);case atStart=>exact⟨0,.inr rfl,rfl,rfl,a8 _ _⟩
 case round =>
  obtain⟨k,hk,rfl,p,m⟩:=hrel;have f:=ae m;clear m;by_cases h:k+1<n
  ·have c0:=(q.aa f ly).2 k (by omega);have c1:=(q.aa f ly).2 (k+1) h;have hlt':(k:Int)+1<n:=by omega
   go_wp2_with fail;go_quiet (fail);have j:=ae (AD f nq);clear c0 c1;generalize wr.drewN nq=W at j ⊢;cases hq:Op.bytesLess (g k).toList (g (k+1)).toList with
   |true =>have l:=ae hq;clear hq;go_wp2;exact⟨⟨k+1,.inl (by omega),by go_num,by show aK g (k+2)=ZH;simp[aK,p.i,l.i],j.i⟩,by simp[intOf];omega⟩
   |false =>have l:=ae hq;clear hq;go_wp2;go_ret;exact⟨bv (kG h l).c,j⟩
  ·have hge:¬ (k:Int)+1<n:=by omega
   go_wp2;go_ret;exact⟨bv (fR (show n<=k+1 by omega) p.i).c,f.i⟩
def aU{ZZ:Array Oper}(R:o.guard=Z)(s x:Operand)(t:ZK)
  (S:o.op=.call { callee:=.builtin .append,args:=#[s,x],argTypes:=#[t,t] })
  (f:Nat) (e:ZK) (i:TypeInfo) (Z8:ZB) (size b:Nat) (ZQ:P.underlying t=Q (.slice e)) (hi:P.info? e=Q i) (hz:i.zero=Q Z8)
  (y:i.size=size) (ZS:i.bytes=b) (ZR:Z8.cells.size=size) (G:0<size)
  (v:ZB) (n:Nat) (C:List ZB) (W:a.eval s=v) (D:ZY w f e size v n C)
  (B:Addr) (m c:Nat) (news:List ZB) (O:a.eval x=Y (Q B) m c) (L:news.length=m*size) (r:∀j u,news[j]?=Q u->w.cell? (B.add j)=Q u) (h1:∀u∈news,u.oneCell'=ZH)
  (H:n+m<=maxLen) (l:(n+m)*b<=140737488355328) (q:f<=A (z w))
  (h:∀g p,p.ownsRow f e size g (n+m) (C++news)->w.grownBy p v.ownBlock->(g.ownBlock=v.ownBlock\/g.ownBlock=Q (A (z w)))->K (a.put o.dst g) p) :
  if Region.wanted o (yielded ZZ a.tmps)=ZH then Oper.wp P o a w K ZO else ZT:=by
 have M:Region.wanted o (yielded ZZ a.tmps)=ZH:=by simp[Region.wanted,R]
 rw[eT M];obtain⟨g,p,ZN,h2,ZP,h4,V⟩:=run_append_own_at (P:=P) w f t o.type e i Z8 size b ZQ hi hz y ZS ZR G v n C D B m c news L r h1 H l q;unfold Oper.wp execOp;simp only[S,resolve,invoke,builtin,Sem.run_bind,Sem.run_pure,Result.andThen_ok,List.map_toArray,T7,VN,W,O,ZN];exact h g p h2 ZP V
def cj (w:E){ZZ:Array Oper}{rest:List Oper}(ZQ:o.guard=Z)(s x:Operand)(t:ZK)
  (O:o.op=.call { callee:=.builtin .append,args:=#[s,x],argTypes:=#[t,t] })
  (f:Nat) (e:ZK) (i:TypeInfo) (Z8:ZB) (size b:Nat) (L:P.underlying t=Q (.slice e)) (hi:P.info? e=Q i) (hz:i.zero=Q Z8)
  (y:i.size=size) (ZS:i.bytes=b) (ZR:Z8.cells.size=size) (ZT:0<size)
  (v:ZB) (n:Nat) (C:List ZB) (ZN:a.eval s=v) (D:ZY w f e size v n C)
  (B:Addr) (m c:Nat) (news:List ZB) (M:a.eval x=Y (Q B) m c) (K:news.length=m*size) (r:∀j u,news[j]?=Q u->w.cell? (B.add j)=Q u) (h1:∀u∈news,u.oneCell'=ZH)
  (G:n+m<=maxLen) (l:(n+m)*b<=140737488355328) (q:f<=A (z w))
  (h:∀g p,p.ownsRow f e size g (n+m) (C++news)->w.grownBy p v.ownBlock->(g.ownBlock=v.ownBlock\/g.ownBlock=Q (A (z w)))->wpList P ZZ ZO rest (a.put o.dst g) p) :
  wpList P ZZ ZO (o::rest) a w:=by
 refine wpList_plain ZQ λK' H=>?_;obtain⟨g,p,S,h2,R,h4,ZP⟩:=run_append_own_at (P:=P) w f t o.type e i Z8 size b L hi hz y ZS ZR ZT v n C D B m c news K r h1 G l q;unfold Oper.wp execOp;simp only[O,resolve,invoke,builtin,Sem.run_bind,Sem.run_pure,Result.andThen_ok,List.map_toArray,T7,VN,ZN,M,S];exact H _ _ (h g p h2 R ZP)
def ep (w:E)(x:ZB)(t:ZK):∀j u,[x][j]?=Q u->(ZV w (N #[x] t)).cell? (((T (A (z w)) 0 Z):Addr).add j)=Q u:=by
 intro j u b;match j,b with
 |0,b=>simp at b;subst b;simp[Addr.add]
def dR{r:Array Oper}(R:o.guard=Z)(s x:Operand)(t:ZK)
  (S:o.op=.call { callee:=.builtin .append,args:=#[s,x],argTypes:=#[t,t] })
  (f:Nat) (e:ZK) (i:TypeInfo) (Z8:ZB) (size b:Nat) (ZQ:P.underlying t=Q (.slice e)) (hi:P.info? e=Q i) (hz:i.zero=Q Z8)
  (q:i.size=size) (ZS:i.bytes=b) (ZR:Z8.cells.size=size) (G:0<size)
  (v:ZB) (n:Nat) (ZZ:List ZB) (ZP:a.eval s=v) (B:ZY w f e size v n ZZ)
  (y:Addr) (m c:Nat) (news:List ZB) (O:a.eval x=Y (Q y) m c) (L:news.length=m*size) (p:∀j u,news[j]?=Q u->w.cell? (y.add j)=Q u) (h1:∀u∈news,u.oneCell'=ZH)
  (H:n+m<=maxLen) (g:(n+m)*b<=140737488355328) (l:f<=A (z w))
  (h:∀D C,C.ownsRow f e size D (n+m) (ZZ++news)->w.grownBy C v.ownBlock->(D=Y Z 0 0 ↔ v=Y Z 0 0/\m=0)->K (a.put o.dst D) C) :
  if Region.wanted o (yielded r a.tmps)=ZH then Oper.wp P o a w K ZO else ZT:=by
 have M:Region.wanted o (yielded r a.tmps)=ZH:=by simp[Region.wanted,R]
 rw[eT M];exact wp_append_own w s x t S f e i Z8 size b ZQ hi hz q ZS ZR G v n ZZ ZP B y m c news O L p h1 H g l h
def J_{g:E}{B:Nat}{v:ZB}{f:List ZB}(h:ZY w b e size v n f)(hb:Below B w g)(i:A (z w)<=B):ZY g b e size v n f:=
 h.kept (row:=Z) ⟨hb.os,hb.tape,hb.output,hb.size,λk j _=>hb.p k (lj j i)⟩ (by cases v.ownBlock<;>simp)
def aE{base':Nat}{v:ZB}{f:List ZB}(h:ZY w b e size v n f)(hb:base'<=b):ZY w base' e size v n f:=by
 refine⟨h.1,?_⟩;rcases h.2 with h|⟨g,j_,i,j,l,r⟩
 {exact .inl h};{exact .inr ⟨g,j_,i,j,nX hb l,r⟩}
def kH (W:E)(b:Array ZB)(ty:ZK)(g j:Nat)(v:ZB)(h:g=A (z W))(f:b[j]?=Q v):(W.alloc (N b ty)).cell? (T g j Z)=Q v:=by subst h;simp[f]
def iA{v:ZB}{f:List ZB}(h:ZY w b e 1 v n f)(hn:0<n):∃g j_,v=Y (Q (T g 0 Z)) n j_:=by
 rcases h.2 with⟨_,h0⟩|⟨g,j_,cur,i,_⟩
 {omega};{exact⟨g,j_,i⟩}
def lM (g:B_)(n:Nat):List ZB:=(List.range n).map λi=>U (g i)
def su (g:B_)(n:Nat):lM g (n+1)=lM g n++[U (g n)]:=by simp[lM,PH]
def AN{f:Nat}{v:ZB}{g:B_}(h:ZY w f e 1 v n (lM g n)):∃a j_,v=Y a n j_/\SlStr w a n g:=by
 rcases h.2 with⟨rfl,rfl⟩|⟨b,j_,cur,rfl,hb,j,_⟩
 {exact⟨Z,0,rfl,.inl rfl⟩}
 ·refine⟨_,j_,rfl,.inr ⟨b,0,rfl,lt_of_block j,λi hi=>?_⟩⟩;have:=h.cells (g:=b) rfl i (U (g i)) (by simp[lM,hi]);rw[IT];have l:((T b 0 Z):Addr).add i=(T b i Z):=by unfold Addr.add;split<;>simp_all
  rwa[l] at this
def pV (b off n c0:Nat)(D:ZB)(a1:O_)(n1 c1:Nat)(u:D=Y a1 n1 c1)(f:Nat->Source)(w:E)(hn:(n:Int)<=1048576)(Z8:RowSource w b off n f):Qw Pg 85 #[ZJ #[Y (Q (T b off Z)) n c0,D]] w λe ZZ=>∃a j_,e=ZI (Y a n j_)/\SlStr ZZ a n (λi=>(f i).e)/\Below (A (z w)) w ZZ:=by
 subst u;have x:=ae Z8;clear Z8;obtain⟨C,hi,B,y,ZT⟩:=NO gX;have ZS:=ae ((BS w).alloc ly (N #[Y (Q (T b off Z)) n c0,Y a1 n1 c1] 29));go_enter func85,ntmps85;go_wp2;go_loopw [3,9] (λv i wr=>∃k:Nat,k<=n/\i=J I k/\Hid (wr.ownsRow (A (z w)) 9 1 v k (lM (λi=>(f i).e) k))/\Below (A (z w)) w wr) (λ_ i _=>n - (intOf i).toNat);case atStart=>exact⟨0,by omega,rfl,CP _ _ _ _,ZS⟩
 case round =>
  obtain⟨k,hk,rfl,m,p⟩:=hrel;have o:=ae p;have r:A (z w)<=A (z wr):=p.size;clear p;by_cases s:k<n;{obtain⟨d0,d1⟩:=(x.2 k s).aa o x.1;go_wp2_with (at_builtin;refine DN _ rfl (.tmp 13) (.tmp 16) 43 rfl (A (z w)) 9 C (U ⟨#[]⟩) 1 16 NG hi B y ZT rfl (by decide) _ k (lM (λi=>(f i).e) k) (by simp[Act.eval]) ((m.alloc _).alloc _) (T (A (z wr)+1) 0 Z) 1 1 [U (f k).e] (by simp[Act.eval]) rfl (by rw[show (A (z wr))+1=A (z (ZV wr (N #[U (f k).e,U (f k).H] 82))) by simp];exact ep _ _ _) (by simp[Value.oneCell']) (by unfold maxLen;omega) (by omega) (by simp;omega) ?_;intro v' w2 h g q;have H:=ae h;have G:=ae (bg ((o.alloc r (N #[U (f k).e,U (f k).H] 82)).alloc (by simp;omega) (N #[U (f k).e] 9)) g (by simp;omega) (λj e=>(m.lt j e).1));clear h g q);exact⟨⟨k+1,by omega,by go_num,by show World.ownsRow _ _ _ _ _ _ _;rw[su];exact H,G⟩,by simp[intOf];omega⟩}
  ·have e:k=n:=by omega
   subst e;obtain⟨a,j_,rfl,l⟩:=AN m;have t:=ae l;clear l;go_wp2;go_ret;exact⟨a,j_,rfl,t,o⟩
def pW (a0:O_)(c0:Nat)(a1:O_)(n1 c1:Nat)(g:B_)(w:E):Qw Pg 85 #[ZJ #[Y a0 0 c0,Y a1 n1 c1]] w λe f=>∃a j_,e=ZI (Y a 0 j_)/\SlStr f a 0 g/\Below (A (z w)) w f:=by
 have j:=ae ((BS w).alloc ly (N #[Y a0 0 c0,Y a1 n1 c1] 29));go_enter func85,ntmps85;go_wp2;go_loopw [3,9] (λv i wr=>v=Y Z 0 0/\i=J I 0/\Below (A (z w)) w wr) (λ_ _ _=>0);case atStart=>exact⟨rfl,rfl,j⟩
 case round =>obtain⟨rfl,rfl,b⟩:=hrel;have h:=ae b;clear b;go_wp2;go_ret;exact⟨Z,0,rfl,.inl rfl,h⟩
def pX (a0:O_)(n c0:Nat)(a1:O_)(n1 c1:Nat)(f:Nat->Source)(w:E)(hn:(n:Int)<=1048576)(g:Qx w a0 n f):Qw Pg 85 #[ZJ #[Y a0 n c0,Y a1 n1 c1]] w λe h=>∃a j_,e=ZI (Y a n j_)/\SlStr h a n (λi=>(f i).e)/\Below (A (z w)) w h:=by
 rcases g with rfl|⟨b,off,rfl,g⟩
 {exact pW a0 c0 a1 n1 c1 _ w};{exact pV b off n c0 _ a1 n1 c1 rfl f w hn g}
def pY (b off n c0:Nat)(ZT:ZB)(a1:O_)(n1 c1:Nat)(x:ZT=Y a1 n1 c1)(f:Nat->Target)(w:E)(hn:(n:Int)<=1048576)(ZZ:RowTarget w b off n f):Qw Pg 86 #[ZJ #[ZT,Y (Q (T b off Z)) n c0]] w λe B=>∃a j_,e=ZI (Y a n j_)/\SlStr B a n (λi=>(f i).e)/\Below (A (z w)) w B:=by
 subst x;have y:=ae ZZ;clear ZZ;obtain⟨D,hi,C,Z8,H⟩:=NO gX;have K:=ae ((BS w).alloc ly (N #[Y a1 n1 c1,Y (Q (T b off Z)) n c0] 29));go_enter func86,ntmps86;go_wp2;go_loopw [3,9] (λv i wr=>∃k:Nat,k<=n/\i=J I k/\Hid (wr.ownsRow (A (z w)) 9 1 v k (lM (λi=>(f i).e) k))/\Below (A (z w)) w wr) (λ_ i _=>n - (intOf i).toNat);case atStart=>exact⟨0,by omega,rfl,CP _ _ _ _,K⟩
 case round =>
  obtain⟨k,hk,rfl,m,p⟩:=hrel;have o:=ae p;have r:A (z w)<=A (z wr):=p.size;clear p;by_cases t:k<n;{obtain⟨d0,s,G,d1,_⟩:=(y.2 k t).aa o ly y.1;go_wp2_with (at_builtin;refine DN _ rfl (.tmp 13) (.tmp 16) 43 rfl (A (z w)) 9 D (U ⟨#[]⟩) 1 16 NG hi C Z8 H rfl (by decide) _ k (lM (λi=>(f i).e) k) (by simp[Act.eval]) ((m.alloc _).alloc _) (T (A (z wr)+1) 0 Z) 1 1 [U (f k).e] (by simp[Act.eval]) rfl (by rw[show (A (z wr))+1=A (z (ZV wr (N #[U (f k).e,Y s (f k).h G] 86))) by simp];exact ep _ _ _) (by simp[Value.oneCell']) (by unfold maxLen;omega) (by omega) (by simp;omega) ?_;intro v' w2 h g q;have ZR:=ae h;have ZS:=ae (bg ((o.alloc r (N #[U (f k).e,Y s (f k).h G] 86)).alloc (by simp;omega) (N #[U (f k).e] 9)) g (by simp;omega) (λj e=>(m.lt j e).1));clear h g q);exact⟨⟨k+1,by omega,by go_num,by show World.ownsRow _ _ _ _ _ _ _;rw[su];exact ZR,ZS⟩,by simp[intOf];omega⟩}
  ·have e:k=n:=by omega
   subst e;obtain⟨a,j_,rfl,l⟩:=AN m;have u:=ae l;clear l;go_wp2;go_ret;exact⟨a,j_,rfl,u,o⟩
def pZ (a0:O_)(c0:Nat)(a1:O_)(n1 c1:Nat)(g:B_)(w:E):Qw Pg 86 #[ZJ #[Y a1 n1 c1,Y a0 0 c0]] w λe f=>∃a j_,e=ZI (Y a 0 j_)/\SlStr f a 0 g/\Below (A (z w)) w f:=by
 have j:=ae ((BS w).alloc ly (N #[Y a1 n1 c1,Y a0 0 c0] 29));go_enter func86,ntmps86;go_wp2;go_loopw [3,9] (λv i wr=>v=Y Z 0 0/\i=J I 0/\Below (A (z w)) w wr) (λ_ _ _=>0);case atStart=>exact⟨rfl,rfl,j⟩
 case round =>obtain⟨rfl,rfl,b⟩:=hrel;have h:=ae b;clear b;go_wp2;go_ret;exact⟨Z,0,rfl,.inl rfl,h⟩
def qb (a0:O_)(n c0:Nat)(a1:O_)(n1 c1:Nat)(f:Nat->Target)(w:E)(hn:(n:Int)<=1048576)(g:Qq w a0 n f):Qw Pg 86 #[ZJ #[Y a1 n1 c1,Y a0 n c0]] w λe h=>∃a j_,e=ZI (Y a n j_)/\SlStr h a n (λi=>(f i).e)/\Below (A (z w)) w h:=by
 rcases g with rfl|⟨b,off,rfl,g⟩
 {exact pZ a0 c0 a1 n1 c1 _ w};{exact pY b off n c0 _ a1 n1 c1 rfl f w hn g}
def xP (w:E)(e:ZK)(size:Nat):(ZV w (N #[] e)).ownsRow (A (z w)) e size (Y (Q (T (A (z w)) 0 Z)) 0 0) 0 []:=
 ⟨by simp,.inr ⟨A (z w),0,#[],rfl,p7 _,gM w _,p7 _,by unfold maxLen;omega,by simp,by simp⟩⟩
def bc (f:Nat->au)(n:Nat):Bool:=decide ((dE f n).1=0)
def er{f:Nat->au}(h:bc f n=ZH):1<=n/\n<=400/\aQ (bw f) n=-1:=by
 have h1:(dE f n).1=0:=OT h;unfold dE at h1;split at h1;{simp at h1};{rename_i h2;refine⟨by omega,by omega,?_⟩;split at h1;{simp at h1};{rename_i g;exact PR λb=>g b}}
def gj{f:Nat->au}(h:bc f n=ZH):∀p,p<n->(f p).f<=200:=by
 intro p b;have h1:=eN (er h).2.2 p b;simp only[bw,j6,kindOk] at h1;obtain⟨_,h2⟩:=h1;split at h2;{simp[aY] at h2;omega};{split at h2;{simp[aY] at h2;omega};{split at h2;{simp[cC] at h2;omega};{simp at h2}}}
def fq{f:Nat->au}(h:bc f n=ZH):∀p,p<n->∀j,j<(f p).f->((f p).m j).ask=ZH->0<=((f p).m j).G/\((f p).m j).G.toNat<p/\(f ((f p).m j).G.toNat).e.toList=((f p).m j).e.toList:=by
 intro p i j g o;have h1:=eN (er h).2.2 p i;simp only[bw,j6,kindOk] at h1;obtain⟨_,h2⟩:=h1;have l:bX f p (f p) (f p).f=ZH:=by
  split at h2;{simp[aY] at h2;omega};{split at h2;{simp[aY] at h2;omega};{split at h2;{simp only[cC,j6] at h2;exact h2.2};{simp at h2}}}
 have b:=lI l j g;simp only[dW,o,Y2,j6,nD,TS] at b;obtain⟨_,⟨⟨_,m⟩,h5⟩,q⟩:=b;exact⟨m,by omega,q⟩
def qd{f:Nat->au}{p:Nat}(h:bj f p n=ZH):∀i,i<n->(f i).e.toList≠(f p).e.toList:=by
 induction n with
 |zero=>intro i hi;omega
 |succ n b =>
  simp only[bj,j6,Bool.not_eq_true',XP] at h;intro i hi;by_cases e:i=n;{subst e;exact h.2};{exact b h.1 i (by omega)}
def j8{f:Nat->au}(h:bc f n=ZH):∀i j,i<n->j<n->(f i).e.toList=(f j).e.toList->i=j:=by
 have h1:(dE f n).1=0:=OT h;have h2:aQ (λp=>bj f p p) n=-1:=by
  unfold dE at h1;split at h1;{simp at h1};{split at h1;{simp at h1};{split at h1;{simp at h1};{rename_i g;exact PR λm=>g m}}}
 have g:=eN h2;intro i j hi l e;rcases VO i j with b|rfl|b;{exact absurd e (qd (g j l) i b)};{rfl};{exact absurd e.c (qd (g i hi) j b)}
def fG:au:={ e:=⟨#[]⟩,L:=0,M:=0,H:=⟨#[]⟩,h:=0,q:=λ_=>⟨0,⟨#[]⟩,0⟩,f:=0,m:=λ_=>⟨⟨#[]⟩,ZA,ZA,0⟩ }
def dF (L:List au)(i:Nat):au:=L.getD i fG
def jF (f:Nat->au)(t:F_)(n:Nat):Int:=aQ (λi=>!((f i).e.toList == t.toList)) n
structure DBox (w:E)(b:Nat)(v0 v1 v2 v3 v4 v5:ZB):Prop where
 lt:b<A (z w)
 c0:ZW w (T b 0 Z)=Q v0/\ZX w (T b 0 Z)=ZA
 c1:ZW w (T b 1 Z)=Q v1/\ZX w (T b 1 Z)=ZA
 c2:ZW w (T b 2 Z)=Q v2/\ZX w (T b 2 Z)=ZA
 c3:ZW w (T b 3 Z)=Q v3/\ZX w (T b 3 Z)=ZA
 c4:ZW w (T b 4 Z)=Q v4/\ZX w (T b 4 Z)=ZA
 c5:ZW w (T b 5 Z)=Q v5/\ZX w (T b 5 Z)=ZA
def DBox.ad{w':E}{n:ZB}(h:DBox w b n g i l m j)(hz:A (z w)<=A (z w'))(e:w'.heap[b]?=w.heap[b]?):DBox w' b n g i l m j:=
 have c:∀o,ZW w' (T b o Z)=ZW w (T b o Z):=λo=>cq (a:=(T b o Z)) e;have f:∀o,ZX w' (T b o Z)=ZX w (T b o Z):=λo=>NF (a:=(T b o Z)) e
 ⟨lj h.lt hz,⟨(c 0).k h.c0.1,(f 0).k h.c0.2⟩,⟨(c 1).k h.c1.1,(f 1).k h.c1.2⟩,⟨(c 2).k h.c2.1,(f 2).k h.c2.2⟩,⟨(c 3).k h.c3.1,(f 3).k h.c3.2⟩,⟨(c 4).k h.c4.1,(f 4).k h.c4.2⟩,⟨(c 5).k h.c5.1,(f 5).k h.c5.2⟩⟩
def DBox.aa{l:E}{B:Nat}{n:ZB}(h:DBox w b n f g j m i)(hb:Below B w l)(o:b<B):DBox l b n f g j m i:=h.ad hb.size (hb.p b o)
def DBox.far (h:DBox w b m f j i l g){p:Addr}(n:p.block≠b)(v:ZB):DBox (w.setCell p v) b m f j i l g:=h.ad (by simp) (qh _ _ _ _ (λe=>n e.c))
def DBox.set1 (h:DBox w b l m i g j f)(v:ZB):DBox (ZU w (T b 1 Z) v) b l v i g j f:=
 ⟨by simpa using h.lt,⟨(sq _ _ _ _ (by simp)).k h.c0.1,by simpa using h.c0.2⟩,⟨BO _ _ _ (by rw[h.c1.1];rfl),by simpa using h.c1.2⟩,⟨(sq _ _ _ _ (by simp)).k h.c2.1,by simpa using h.c2.2⟩,⟨(sq _ _ _ _ (by simp)).k h.c3.1,by simpa using h.c3.2⟩,⟨(sq _ _ _ _ (by simp)).k h.c4.1,by simpa using h.c4.2⟩,⟨(sq _ _ _ _ (by simp)).k h.c5.1,by simpa using h.c5.2⟩⟩
def DBox.set2 (h:DBox w b l f m i j g)(v:ZB):DBox (ZU w (T b 2 Z) v) b l f v i j g:=
 ⟨by simpa using h.lt,⟨(sq _ _ _ _ (by simp)).k h.c0.1,by simpa using h.c0.2⟩,⟨(sq _ _ _ _ (by simp)).k h.c1.1,by simpa using h.c1.2⟩,⟨BO _ _ _ (by rw[h.c2.1];rfl),by simpa using h.c2.2⟩,⟨(sq _ _ _ _ (by simp)).k h.c3.1,by simpa using h.c3.2⟩,⟨(sq _ _ _ _ (by simp)).k h.c4.1,by simpa using h.c4.2⟩,⟨(sq _ _ _ _ (by simp)).k h.c5.1,by simpa using h.c5.2⟩⟩
def DBox.set3 (h:DBox w b l f i m j g)(v:ZB):DBox (ZU w (T b 3 Z) v) b l f i v j g:=
 ⟨by simpa using h.lt,⟨(sq _ _ _ _ (by simp)).k h.c0.1,by simpa using h.c0.2⟩,⟨(sq _ _ _ _ (by simp)).k h.c1.1,by simpa using h.c1.2⟩,⟨(sq _ _ _ _ (by simp)).k h.c2.1,by simpa using h.c2.2⟩,⟨BO _ _ _ (by rw[h.c3.1];rfl),by simpa using h.c3.2⟩,⟨(sq _ _ _ _ (by simp)).k h.c4.1,by simpa using h.c4.2⟩,⟨(sq _ _ _ _ (by simp)).k h.c5.1,by simpa using h.c5.2⟩⟩
def DBox.set4 (h:DBox w b l f j i m g)(v:ZB):DBox (ZU w (T b 4 Z) v) b l f j i v g:=
 ⟨by simpa using h.lt,⟨(sq _ _ _ _ (by simp)).k h.c0.1,by simpa using h.c0.2⟩,⟨(sq _ _ _ _ (by simp)).k h.c1.1,by simpa using h.c1.2⟩,⟨(sq _ _ _ _ (by simp)).k h.c2.1,by simpa using h.c2.2⟩,⟨(sq _ _ _ _ (by simp)).k h.c3.1,by simpa using h.c3.2⟩,⟨BO _ _ _ (by rw[h.c4.1];rfl),by simpa using h.c4.2⟩,⟨(sq _ _ _ _ (by simp)).k h.c5.1,by simpa using h.c5.2⟩⟩
def DBox.set5 (h:DBox w b l f i g j m)(v:ZB):DBox (ZU w (T b 5 Z) v) b l f i g j v:=
 ⟨by simpa using h.lt,⟨(sq _ _ _ _ (by simp)).k h.c0.1,by simpa using h.c0.2⟩,⟨(sq _ _ _ _ (by simp)).k h.c1.1,by simpa using h.c1.2⟩,⟨(sq _ _ _ _ (by simp)).k h.c2.1,by simpa using h.c2.2⟩,⟨(sq _ _ _ _ (by simp)).k h.c3.1,by simpa using h.c3.2⟩,⟨(sq _ _ _ _ (by simp)).k h.c4.1,by simpa using h.c4.2⟩,⟨BO _ _ _ (by rw[h.c5.1];rfl),by simpa using h.c5.2⟩⟩
def jG (w:E)(j h i g b f:ZB)(t:ZK):DBox (ZV w (N #[j,h,i,g,b,f] t)) (A (z w)) j h i g b f:=by refine⟨by simp,?_,?_,?_,?_,?_,?_⟩<;>simp
def DJ (w:E)(j b h g i f u0 u1 u2 u3 u4 u5:ZB)(t:ZK):DBox (ZV (ZV w (N #[j,b,h,g,i,f] t)) (N #[u0,u1,u2,u3,u4,u5] t)) (A (z w)) j b h g i f/\DBox (ZV (ZV w (N #[j,b,h,g,i,f] t)) (N #[u0,u1,u2,u3,u4,u5] t)) (A (z w)+1) u0 u1 u2 u3 u4 u5:=by
 have hz:A (z (ZV w (N #[j,b,h,g,i,f] t)))=A (z w)+1:=by simp
 refine⟨(jG w j b h g i f t).aa ((a8 (A (z w)+1) _).alloc (by omega) _) (eL _),?_⟩;have:=jG (ZV w (N #[j,b,h,g,i,f] t)) u0 u1 u2 u3 u4 u5 t;rw[hz] at this;exact this
def DK (b off m c:Nat)(g:Nat->au)(t:F_)(w:E)(hmm:(m:Int)<=1048576)(h:Qk w b off m g):Qw Pg 122 #[ZJ #[Y (Q (T b off Z)) m c],U t] w λe s=>e=ZI (J I (jF g t m))/\Below (A (z w)) w s:=by
 obtain⟨W,l⟩:∃W:E,ZV w (N #[Y (Q (T b off Z)) m c] 25)=W:=⟨_,rfl⟩
 obtain⟨p,-,-⟩:=nb1 l;have f:=ae l;clear l;have u:=ae (h.aa p ly);have k0:ZW W (T (A (z w)) 0 Z)=Q (Y (Q (T b off Z)) m c):=by rw[<-f.i];simp
 clear h;go_enter func122,ntmps122;go_wp2;rw[f.i];clear f;go_loop [5] (λi=>∃k:Nat,k<=m/\i=J I k/\Hid (∀j,j<k->(!((g j).e.toList == t.toList))=ZH)) (λi=>m - (intOf i).toNat);case atStart=>exact⟨0,by omega,rfl,λj r=>absurd r (NE _)⟩
 case round =>
  obtain⟨k,hk,rfl,o⟩:=hrel;by_cases n:k<m
  ·obtain⟨c0,_⟩:=u.2 k n;cases hb:((g k).e.toList == t.toList) with
   |true =>have q:=ae hb;go_wp2;go_ret;refine⟨?_,p⟩;rw[jF,fQ n (by rw[q.i];rfl) o.i];rfl
   |false =>
    have q:=ae hb;go_wp2;refine⟨⟨k+1,by omega,by go_num,λj r=>?_⟩,by simp[intOf];omega⟩;by_cases e:j=k;{subst e;rw[q.i];rfl};{exact o j (by omega)}
  ·have e:k=m:=by omega
   subst e;go_wp2;go_ret;refine⟨?_,p⟩;rw[jF,ej o.i];rfl
def DO (a:O_)(c:Nat)(g:Nat->au)(t:F_)(w:E):Qw Pg 122 #[ZJ #[Y a 0 c],U t] w λe h=>e=ZI (J I (jF g t 0))/\Below (A (z w)) w h:=by
 have b:=ae ((BS w).alloc ly (N #[Y a 0 c] 25));have f:ZW (ZV w (N #[Y a 0 c] 25)) (T (A (z w)) 0 Z)=Q (Y a 0 c):=by simp
 go_enter func122,ntmps122;go_wp2;generalize World.alloc w _=W at b f ⊢;go_loop [5] (λi=>i=J I 0) (λ_=>0);case atStart=>rfl
 case round =>subst hrel;go_wp2;go_ret;exact⟨rfl,b⟩
def DU (a:O_)(m c:Nat)(g:Nat->au)(t:F_)(w:E)(f:(m:Int)<=1048576)(h:SlDeed w a m g):Qw Pg 122 #[ZJ #[Y a m c],U t] w λe j=>e=ZI (J I (jF g t m))/\Below (A (z w)) w j:=by
 by_cases hz:m=0;{subst hz;exact DO a c g t w};{obtain⟨b,off,rfl,i⟩:=h.resolve_left hz;exact DK b off m c g t w f i}
