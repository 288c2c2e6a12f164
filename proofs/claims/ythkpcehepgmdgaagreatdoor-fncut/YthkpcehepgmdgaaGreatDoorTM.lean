import Derived.Test.YthkpcehepgmdgaaGreatDoorTE
import Derived.OneCell
import Derived.OwnWalk
import Derived.Maps.AppendAt
import Derived.Deep.RegionLaw
set_option maxRecDepth 100000
set_option maxHeartbeats 4000000
set_option linter.unusedSimpArgs false
open Go renaming Addr.mk->Q,Value.slice->Z,Value.string->U,Value.int->J,Value.bool->ZC,Value.agg->ZH,Obj.cells->N,IntKind.i64->I,World->G,Value->ZD,TypeId->ZI,Ending.returned->ZG,World.ownsRow->ZX,World.alloc->ZU,World.cell?->ZV,World.frozen?->ZW,World.setCell->ZT,Proofs.Tryz.prog->Pg
open Option renaming none->Y,some->T
open Bool renaming false->ZB,true->ZF
namespace Go.Proofs.YthkpcehepgmdgaaGreatDoor.Vp
open Tryz RowKit
variable {n b p B size:Nat}{w:G}{f:Nat->af}{i m g j l:ZD}{e:ZI}{P:Program}{o:Oper}{a:Act}{ZN:Exit->Act->G->Prop}{K:Act->G->Prop}{E:Prop}
def cJ (g:Nat->ByteArray):Nat->Bool
 |0=>ZF
 |k+1=>cJ g k && av (g k)
theorem sP{g:Nat->ByteArray}{k:Nat}(h:k<=n)(hn:cJ g n=ZF):cJ g k=ZF:=by
 induction n with
 |zero =>
  obtain rfl:k=0:=by omega
  exact hn
 |succ m b =>
  by_cases e:k=m+1;{subst e;exact hn};{simp only[cJ,j5] at hn;exact b (by omega) hn.1}
theorem iK{g:Nat->ByteArray}{k:Nat}(h:k<n)(b:av (g k)=ZB):cJ g n=ZB:=by
 cases e:cJ g n with
 |false=>rfl
 |true =>have h2:=sP (show k+1<=n by omega) e;simp[cJ,b] at h2
theorem xx (a0 a1:Option Addr)(n0 c0 n1 c1:Nat)(w:G)(h0:(n0:Int)<=1048576)(h1:(n1:Int)<=1048576):Calls Pg 94 #[ZH #[Z a0 n0 c0,Z a1 n1 c1]] w λe b=>e=ZG (J I ((n0:Int)+n1))/\Below w.heap.size w b:=by go_enter func94,ntmps94;go_wp2;go_ret;exact⟨rfl,br.alloc ly _⟩
theorem sQ (b off n cap:Nat)(g:Nat->ByteArray)(w:G)(hn:(n:Int)<=1048576)(q:RowStr w b off n g):Calls Pg 97 #[Z (T (Q b off Y)) n cap] w λe s=>e=ZG (ZC (cJ g n))/\Below w.heap.size w s:=by
 have r:=ae q;clear q;go_enter func97,ntmps97;go_wp2;go_loopw [7] (λi wr=>∃k:Nat,k<=n/\i=J I k/\Hid (cJ g k=ZF)/\Below w.heap.size w wr) (λi _=>n - (intOf i).toNat);case atStart=>exact⟨0,by omega,rfl,rfl,cM _ _⟩
 case round =>
  obtain⟨k,hk,rfl,o,m⟩:=hrel;have f:=ae m;clear m;by_cases j:k<n
  ·have c0:=(r.aa f ly).2 k j;go_wp2_with fail;refine(fF _ _).mono ?_;rintro e w1 ⟨rfl,h⟩;have p:=ae (f.trans (h.mono f.size));clear h;cases hq:av (g k) with
   |true =>have l:=ae hq;clear hq;go_wp2;exact⟨⟨k+1,by omega,by go_num,by show cJ g (k+1)=ZF;simp[cJ,o.out,l.out],p.out⟩,by simp[intOf];omega⟩
   |false =>have l:=ae hq;clear hq;go_wp2;go_ret;exact⟨be (iK j l).symm,p⟩
  ·have e:k=n:=by omega
   subst e;go_wp2;go_ret;exact⟨be o.symm,f⟩
theorem sR (a:Option Addr)(cap:Nat)(w:G):Calls Pg 97 #[Z a 0 cap] w λe b=>e=ZG (ZC ZF)/\b=w:=by
 go_enter func97,ntmps97;go_wp2;go_loop [7] (λi=>i=J I 0) (λ_=>0);case atStart=>rfl
 case round =>subst hrel;go_wp2;go_ret;exact⟨rfl,rfl⟩
theorem me (a:Option Addr)(n cap:Nat)(g:Nat->ByteArray)(w:G)(hn:(n:Int)<=1048576)(f:SlStr w a n g):Calls Pg 97 #[Z a n cap] w λe h=>e=ZG (ZC (cJ g n))/\Below w.heap.size w h:=by
 rcases f with rfl|⟨b,off,rfl,f⟩
 {exact(sR a cap w).mono λe h ⟨p,q⟩=>⟨p,by rw[q];exact cM _ _⟩};{exact sQ b off n cap g w hn f}
def aJ (g:Nat->ByteArray):Nat->Bool
 |0=>ZF
 |1=>ZF
 |k+2=>aJ g (k+1) && Op.bytesLess (g k).toList (g (k+1)).toList
theorem gJ{g:Nat->ByteArray}{k:Nat}(h:k<=n)(hn:aJ g n=ZF):aJ g k=ZF:=by
 induction n with
 |zero =>
  obtain rfl:k=0:=by omega
  exact hn
 |succ m b =>
  by_cases e:k=m+1;{subst e;exact hn}
  ·cases m with
   |zero =>
    obtain rfl:k=0:=by omega
    rfl
   |succ j =>simp only[aJ,j5] at hn;exact b (by omega) hn.1
theorem jS{g:Nat->ByteArray}{k:Nat}(h:k+1<n)(b:Op.bytesLess (g k).toList (g (k+1)).toList=ZB):aJ g n=ZB:=by
 cases e:aJ g n with
 |false=>rfl
 |true =>have h2:=gJ (show k+2<=n by omega) e;simp[aJ,b] at h2
theorem rV (b off n cap:Nat)(g:Nat->ByteArray)(w:G)(hn:(n:Int)<=1048576)(q:RowStr w b off n g):Calls Pg 98 #[Z (T (Q b off Y)) n cap] w λe r=>e=ZG (ZC (aJ g n))/\Below w.heap.size w r:=by
 have o:=ae q;clear q;go_enter func98,ntmps98;go_wp2;go_loopw [3] (λi wr=>∃k:Nat,(k+1<=n∨k=0)/\i=J I ((k:Int)+1)/\Hid (aJ g (k+1)=ZF)/\Below w.heap.size w wr) (λi _=>n+1 - (intOf i).toNat);case atStart=>exact⟨0,.inr rfl,rfl,rfl,cM _ _⟩
 case round =>
  obtain⟨k,hk,rfl,p,m⟩:=hrel;have f:=ae m;clear m;by_cases h:k+1<n
  ·have c0:=(o.aa f ly).2 k (by omega);have c1:=(o.aa f ly).2 (k+1) h;have hlt':(k:Int)+1<n:=by omega
   go_wp2_with fail;go_quiet (fail);have l:=ae (BG f nq);clear c0 c1;generalize wr.drewN nq=W at l ⊢;cases hq:Op.bytesLess (g k).toList (g (k+1)).toList with
   |true =>have j:=ae hq;clear hq;go_wp2;exact⟨⟨k+1,.inl (by omega),by go_num,by show aJ g (k+2)=ZF;simp[aJ,p.out,j.out],l.out⟩,by simp[intOf];omega⟩
   |false =>have j:=ae hq;clear hq;go_wp2;go_ret;exact⟨be (jS h j).symm,l⟩
  ·have hge:¬ (k:Int)+1<n:=by omega
   go_wp2;go_ret;exact⟨be (gJ (show n<=k+1 by omega) p.out).symm,f.out⟩
theorem aQ{A:Array Oper}(O:o.guard=Y)(s x:Operand)(t:ZI)
  (ZL:o.op=.call { callee:=.builtin .append,args:=#[s,x],argTypes:=#[t,t] })
  (b:Nat) (e:ZI) (i:TypeInfo) (z:ZD) (size f:Nat) (ZM:P.underlying t=T (.slice e)) (hi:P.info? e=T i) (hz:i.zero=T z)
  (q:i.size=size) (ZP:i.bytes=f) (H:z.cells.size=size) (ZQ:0<size)
  (v:ZD) (n:Nat) (C:List ZD) (W:a.eval s=v) (D:ZX w b e size v n C)
  (B:Addr) (m c:Nat) (news:List ZD) (S:a.eval x=Z (T B) m c) (V:news.length=m*size) (r:∀j u,news[j]?=T u->w.cell? (B.add j)=T u) (h1:∀u∈news,u.oneCell'=ZF)
  (ZS:n+m<=maxLen) (l:(n+m)*f<=140737488355328) (y:b<=w.heap.size)
  (h:∀g p,p.ownsRow b e size g (n+m) (C++news)->w.grownBy p v.ownBlock->(g.ownBlock=v.ownBlock∨g.ownBlock=T w.heap.size)->K (a.put o.dst g) p) :
  if Region.wanted o (yielded A a.tmps)=ZF then Oper.wp P o a w K ZN else E:=by
 have ZO:Region.wanted o (yielded A a.tmps)=ZF:=by simp[Region.wanted,O]
 rw[hU ZO];obtain⟨g,p,R,h2,L,h4,M⟩:=run_append_own_at (P:=P) w b t o.type e i z size f ZM hi hz q ZP H ZQ v n C D B m c news V r h1 ZS l y;unfold Oper.wp execOp;simp only[ZL,resolve,invoke,builtin,Sem.run_bind,Sem.run_pure,Result.andThen_ok,List.map_toArray,QR,T7,W,S,R];exact h g p h2 L M
theorem bU (w:G){A:Array Oper}{rest:List Oper}(M:o.guard=Y)(s x:Operand)(t:ZI)
  (S:o.op=.call { callee:=.builtin .append,args:=#[s,x],argTypes:=#[t,t] })
  (b:Nat) (e:ZI) (i:TypeInfo) (z:ZD) (size f:Nat) (R:P.underlying t=T (.slice e)) (hi:P.info? e=T i) (hz:i.zero=T z)
  (q:i.size=size) (ZQ:i.bytes=f) (ZS:z.cells.size=size) (H:0<size)
  (v:ZD) (n:Nat) (C:List ZD) (ZL:a.eval s=v) (D:ZX w b e size v n C)
  (B:Addr) (m c:Nat) (news:List ZD) (O:a.eval x=Z (T B) m c) (ZM:news.length=m*size) (r:∀j u,news[j]?=T u->w.cell? (B.add j)=T u) (h1:∀u∈news,u.oneCell'=ZF)
  (E:n+m<=maxLen) (l:(n+m)*f<=140737488355328) (y:b<=w.heap.size)
  (h:∀g p,p.ownsRow b e size g (n+m) (C++news)->w.grownBy p v.ownBlock->(g.ownBlock=v.ownBlock∨g.ownBlock=T w.heap.size)->wpList P A ZN rest (a.put o.dst g) p) :
  wpList P A ZN (o::rest) a w:=by
 refine wpList_plain M λK' ZP=>?_;obtain⟨g,p,ZO,h2,K,h4,L⟩:=run_append_own_at (P:=P) w b t o.type e i z size f R hi hz q ZQ ZS H v n C D B m c news ZM r h1 E l y;unfold Oper.wp execOp;simp only[S,resolve,invoke,builtin,Sem.run_bind,Sem.run_pure,Result.andThen_ok,List.map_toArray,QR,T7,ZL,O,ZO];exact ZP _ _ (h g p h2 K L)
theorem fs (w:G)(x:ZD)(t:ZI):∀j u,[x][j]?=T u->(ZU w (N #[x] t)).cell? (((Q w.heap.size 0 Y):Addr).add j)=T u:=by
 intro j u b;match j,b with
 |0,b=>simp at b;subst b;simp[Addr.add]
theorem dr{r:Array Oper}(M:o.guard=Y)(s x:Operand)(t:ZI)
  (R:o.op=.call { callee:=.builtin .append,args:=#[s,x],argTypes:=#[t,t] })
  (b:Nat) (e:ZI) (i:TypeInfo) (z:ZD) (size f:Nat) (O:P.underlying t=T (.slice e)) (hi:P.info? e=T i) (hz:i.zero=T z)
  (l:i.size=size) (ZP:i.bytes=f) (H:z.cells.size=size) (ZQ:0<size)
  (v:ZD) (n:Nat) (A:List ZD) (ZM:a.eval s=v) (C:ZX w b e size v n A)
  (y:Addr) (m c:Nat) (news:List ZD) (ZO:a.eval x=Z (T y) m c) (S:news.length=m*size) (p:∀j u,news[j]?=T u->w.cell? (y.add j)=T u) (h1:∀u∈news,u.oneCell'=ZF)
  (ZS:n+m<=maxLen) (g:(n+m)*f<=140737488355328) (q:b<=w.heap.size)
  (h:∀B D,D.ownsRow b e size B (n+m) (A++news)->w.grownBy D v.ownBlock->(B=Z Y 0 0 ↔ v=Z Y 0 0/\m=0)->K (a.put o.dst B) D) :
  if Region.wanted o (yielded r a.tmps)=ZF then Oper.wp P o a w K ZN else E:=by
 have L:Region.wanted o (yielded r a.tmps)=ZF:=by simp[Region.wanted,M]
 rw[hU L];exact wp_append_own w s x t R b e i z size f O hi hz l ZP H ZQ v n A ZM C y m c news ZO S p h1 ZS g q h
theorem own_below{g:G}{v:ZD}{f:List ZD}(h:ZX w b e size v n f)(hb:Below B w g)(i:w.heap.size<=B):ZX g b e size v n f :=
 h.kept (row:=Y) ⟨hb.os,hb.tape,hb.output,hb.size,λk j _=>hb.block k (lj j i)⟩ (by cases v.ownBlock<;>simp)
theorem aA{base':Nat}{v:ZD}{f:List ZD}(h:ZX w b e size v n f)(hb:base'<=b):ZX w base' e size v n f:=by
 refine⟨h.1,?_⟩;rcases h.2 with h|⟨g,cap,i,l,j,r⟩
 {exact .inl h};{exact .inr ⟨g,cap,i,l,AD hb j,r⟩}
theorem jT (W:G)(b:Array ZD)(ty:ZI)(g j:Nat)(v:ZD)(f:g=W.heap.size)(h:b[j]?=T v):(W.alloc (N b ty)).cell? (Q g j Y)=T v:=by subst f;simp[h]
theorem jk{v:ZD}{f:List ZD}(h:ZX w b e 1 v n f)(hn:0<n):∃g cap,v=Z (T (Q g 0 Y)) n cap:=by
 rcases h.2 with ⟨_,h0⟩|⟨g,cap,cur,i,_⟩
 {omega};{exact⟨g,cap,i⟩}
def kO (g:Nat->ByteArray)(n:Nat):List ZD:=(List.range n).map λi=>U (g i)
theorem qQ (g:Nat->ByteArray)(n:Nat):kO g (n+1)=kO g n++[U (g n)]:=by simp[kO,LP]
theorem zn{f:Nat}{v:ZD}{g:Nat->ByteArray}(h:ZX w f e 1 v n (kO g n)):∃a cap,v=Z a n cap/\SlStr w a n g:=by
 rcases h.2 with ⟨rfl,rfl⟩|⟨b,cap,cur,rfl,hb,j,_⟩
 {exact⟨Y,0,rfl,.inl rfl⟩}
 ·refine⟨_,cap,rfl,.inr ⟨b,0,rfl,lt_of_block j,λi hi=>?_⟩⟩;have:=h.cells (g:=b) rfl i (U (g i)) (by simp[kO,hi]);rw[E4];have l:((Q b 0 Y):Addr).add i=(Q b i Y):=by unfold Addr.add;split<;>simp_all
  rwa[l] at this
theorem o6 (b off n c0:Nat)(r:ZD)(a1:Option Addr)(n1 c1:Nat)(D:r=Z a1 n1 c1)(f:Nat->Source)(w:G)(hn:(n:Int)<=1048576)(t:RowSource w b off n f):Calls Pg 95 #[ZH #[Z (T (Q b off Y)) n c0,r]] w λe C=>∃a cap,e=ZG (Z a n cap)/\SlStr C a n (λi=>(f i).e)/\Below w.heap.size w C:=by
 subst D;have y:=ae t;clear t;obtain⟨z,hi,E,A,u⟩:=KQ gH;have ZS:=ae ((q9 w).alloc ly (N #[Z (T (Q b off Y)) n c0,Z a1 n1 c1] 33));go_enter func95,ntmps95;go_wp2;go_loopw [3,9] (λv i wr=>∃k:Nat,k<=n/\i=J I k/\Hid (ZX wr w.heap.size 9 1 v k (kO (λi=>(f i).e) k))/\Below w.heap.size w wr) (λ_ i _=>n - (intOf i).toNat);case atStart=>exact⟨0,by omega,rfl,CL _ _ _ _,ZS⟩
 case round =>
  obtain⟨k,hk,rfl,q,m⟩:=hrel;have o:=ae m;have x:w.heap.size<=wr.heap.size:=m.size;clear m;by_cases B:k<n;{obtain⟨d0,d1⟩:=(y.2 k B).aa o y.1;go_wp2_with (at_builtin;refine DD _ rfl (.tmp 13) (.tmp 16) 45 rfl w.heap.size 9 z (U ⟨#[]⟩) 1 16 LZ hi E A u rfl (by decide) _ k (kO (λi=>(f i).e) k) (by simp[Act.eval]) ((q.alloc _).alloc _) (Q (wr.heap.size+1) 0 Y) 1 1 [U (f k).e] (by simp[Act.eval]) rfl (by rw[show wr.heap.size+1=(ZU wr (N #[U (f k).e,U (f k).B] 87)).heap.size by simp];exact fs _ _ _) (by simp[Value.oneCell']) (by unfold maxLen;omega) (by omega) (by simp;omega) ?_;intro v' w2 h g p;have ZQ:=ae h;have H:=ae (bg ((o.alloc x (N #[U (f k).e,U (f k).B] 87)).alloc (by simp;omega) (N #[U (f k).e] 9)) g (by simp;omega) (λj e=>(q.lt j e).1));clear h g p);exact⟨⟨k+1,by omega,by go_num,by show World.ownsRow _ _ _ _ _ _ _;rw[qQ];exact ZQ,H⟩,by simp[intOf];omega⟩}
  ·have e:k=n:=by omega
   subst e;obtain⟨a,cap,rfl,l⟩:=zn q;have s:=ae l;clear l;go_wp2;go_ret;exact⟨a,cap,rfl,s,o⟩
theorem o7 (a0:Option Addr)(c0:Nat)(a1:Option Addr)(n1 c1:Nat)(g:Nat->ByteArray)(w:G):Calls Pg 95 #[ZH #[Z a0 0 c0,Z a1 n1 c1]] w λe f=>∃a cap,e=ZG (Z a 0 cap)/\SlStr f a 0 g/\Below w.heap.size w f:=by
 have j:=ae ((q9 w).alloc ly (N #[Z a0 0 c0,Z a1 n1 c1] 33));go_enter func95,ntmps95;go_wp2;go_loopw [3,9] (λv i wr=>v=Z Y 0 0/\i=J I 0/\Below w.heap.size w wr) (λ_ _ _=>0);case atStart=>exact⟨rfl,rfl,j⟩
 case round =>obtain⟨rfl,rfl,b⟩:=hrel;have h:=ae b;clear b;go_wp2;go_ret;exact⟨Y,0,rfl,.inl rfl,h⟩
theorem o8 (a0:Option Addr)(n c0:Nat)(a1:Option Addr)(n1 c1:Nat)(f:Nat->Source)(w:G)(hn:(n:Int)<=1048576)(g:SlSource w a0 n f):Calls Pg 95 #[ZH #[Z a0 n c0,Z a1 n1 c1]] w λe h=>∃a cap,e=ZG (Z a n cap)/\SlStr h a n (λi=>(f i).e)/\Below w.heap.size w h:=by
 rcases g with rfl|⟨b,off,rfl,g⟩
 {exact o7 a0 c0 a1 n1 c1 _ w};{exact o6 b off n c0 _ a1 n1 c1 rfl f w hn g}
theorem o9 (b off n c0:Nat)(s:ZD)(a1:Option Addr)(n1 c1:Nat)(ZS:s=Z a1 n1 c1)(f:Nat->Target)(w:G)(hn:(n:Int)<=1048576)(u:RowTarget w b off n f):Calls Pg 96 #[ZH #[s,Z (T (Q b off Y)) n c0]] w λe E=>∃a cap,e=ZG (Z a n cap)/\SlStr E a n (λi=>(f i).e)/\Below w.heap.size w E:=by
 subst ZS;have z:=ae u;clear u;obtain⟨A,hi,H,B,x⟩:=KQ gH;have ZQ:=ae ((q9 w).alloc ly (N #[Z a1 n1 c1,Z (T (Q b off Y)) n c0] 33));go_enter func96,ntmps96;go_wp2;go_loopw [3,9] (λv i wr=>∃k:Nat,k<=n/\i=J I k/\Hid (ZX wr w.heap.size 9 1 v k (kO (λi=>(f i).e) k))/\Below w.heap.size w wr) (λ_ i _=>n - (intOf i).toNat);case atStart=>exact⟨0,by omega,rfl,CL _ _ _ _,ZQ⟩
 case round =>
  obtain⟨k,hk,rfl,q,m⟩:=hrel;have o:=ae m;have y:w.heap.size<=wr.heap.size:=m.size;clear m;by_cases C:k<n;{obtain⟨d0,D,r,d1,_⟩:=(z.2 k C).aa o ly z.1;go_wp2_with (at_builtin;refine DD _ rfl (.tmp 13) (.tmp 16) 45 rfl w.heap.size 9 A (U ⟨#[]⟩) 1 16 LZ hi H B x rfl (by decide) _ k (kO (λi=>(f i).e) k) (by simp[Act.eval]) ((q.alloc _).alloc _) (Q (wr.heap.size+1) 0 Y) 1 1 [U (f k).e] (by simp[Act.eval]) rfl (by rw[show wr.heap.size+1=(ZU wr (N #[U (f k).e,Z D (f k).l r] 94)).heap.size by simp];exact fs _ _ _) (by simp[Value.oneCell']) (by unfold maxLen;omega) (by omega) (by simp;omega) ?_;intro v' w2 h g p;have K:=ae h;have ZP:=ae (bg ((o.alloc y (N #[U (f k).e,Z D (f k).l r] 94)).alloc (by simp;omega) (N #[U (f k).e] 9)) g (by simp;omega) (λj e=>(q.lt j e).1));clear h g p);exact⟨⟨k+1,by omega,by go_num,by show World.ownsRow _ _ _ _ _ _ _;rw[qQ];exact K,ZP⟩,by simp[intOf];omega⟩}
  ·have e:k=n:=by omega
   subst e;obtain⟨a,cap,rfl,l⟩:=zn q;have t:=ae l;clear l;go_wp2;go_ret;exact⟨a,cap,rfl,t,o⟩
theorem pa (a0:Option Addr)(c0:Nat)(a1:Option Addr)(n1 c1:Nat)(g:Nat->ByteArray)(w:G):Calls Pg 96 #[ZH #[Z a1 n1 c1,Z a0 0 c0]] w λe f=>∃a cap,e=ZG (Z a 0 cap)/\SlStr f a 0 g/\Below w.heap.size w f:=by
 have j:=ae ((q9 w).alloc ly (N #[Z a1 n1 c1,Z a0 0 c0] 33));go_enter func96,ntmps96;go_wp2;go_loopw [3,9] (λv i wr=>v=Z Y 0 0/\i=J I 0/\Below w.heap.size w wr) (λ_ _ _=>0);case atStart=>exact⟨rfl,rfl,j⟩
 case round =>obtain⟨rfl,rfl,b⟩:=hrel;have h:=ae b;clear b;go_wp2;go_ret;exact⟨Y,0,rfl,.inl rfl,h⟩
theorem pd (a0:Option Addr)(n c0:Nat)(a1:Option Addr)(n1 c1:Nat)(f:Nat->Target)(w:G)(hn:(n:Int)<=1048576)(g:SlTarget w a0 n f):Calls Pg 96 #[ZH #[Z a1 n1 c1,Z a0 n c0]] w λe h=>∃a cap,e=ZG (Z a n cap)/\SlStr h a n (λi=>(f i).e)/\Below w.heap.size w h:=by
 rcases g with rfl|⟨b,off,rfl,g⟩
 {exact pa a0 c0 a1 n1 c1 _ w};{exact o9 b off n c0 _ a1 n1 c1 rfl f w hn g}
theorem En (w:G)(e:ZI)(size:Nat):(ZU w (N #[] e)).ownsRow w.heap.size e size (Z (T (Q w.heap.size 0 Y)) 0 0) 0 [] :=
 ⟨by simp,.inr ⟨w.heap.size,0,#[],rfl,j6 _,nD w _,j6 _,by unfold maxLen;omega,by simp,by simp⟩⟩
def aK (f:Nat->af)(n:Nat):Bool:=decide ((dl f n).1=0)
theorem dy (h:aK f n=ZF):1<=n/\n<=400/\aE (ba f) n=-1:=by
 have h1:(dl f n).1=0:=MA h;unfold dl at h1;split at h1;{simp at h1};{rename_i h2;refine⟨by omega,by omega,?_⟩;split at h1;{simp at h1};{rename_i g;exact NZ λb=>g b}}
theorem eP (h:aK f n=ZF):∀p,p<n->(f p).f<=200:=by
 intro p b;have h1:=dY (dy h).2.2 p b;simp only[ba,j5,kindOk] at h1;obtain⟨_,h2⟩:=h1;split at h2;{simp[aP] at h2;omega};{split at h2;{simp[aP] at h2;omega};{split at h2;{simp[bT] at h2;omega};{simp at h2}}}
theorem eA (h:aK f n=ZF):∀p,p<n->∀j,j<(f p).f->((f p).m j).ask=ZF->0<=((f p).m j).L/\((f p).m j).L.toNat<p/\(f ((f p).m j).L.toNat).e.toList=((f p).m j).e.toList:=by
 intro p m j q i;have h1:=dY (dy h).2.2 p m;simp only[ba,j5,kindOk] at h1;obtain⟨_,h2⟩:=h1;have o:bE f p (f p) (f p).f=ZF:=by
  split at h2;{simp[aP] at h2;omega};{split at h2;{simp[aP] at h2;omega};{split at h2;{simp only[bT,j5] at h2;exact h2.2};{simp at h2}}}
 have b:=kK o j q;simp only[dD,i,SV,j5,nX,ON] at b;obtain⟨_,⟨⟨_,l⟩,h5⟩,g⟩:=b;exact⟨l,by omega,g⟩
theorem pi (h:aN f p n=ZF):∀i,i<n->(f i).e.toList≠(f p).e.toList:=by
 induction n with
 |zero=>intro i hi;omega
 |succ n b =>
  simp only[aN,j5,Bool.not_eq_true',beq_eq_false_iff_ne] at h;intro i hi;by_cases e:i=n;{subst e;exact h.2};{exact b h.1 i (by omega)}
theorem eB (h:aK f n=ZF):∀i j,i<n->j<n->(f i).e.toList=(f j).e.toList->i=j:=by
 have h1:(dl f n).1=0:=MA h;have h2:aE (λp=>aN f p p) n=-1:=by
  unfold dl at h1;split at h1;{simp at h1};{split at h1;{simp at h1};{split at h1;{simp at h1};{rename_i g;exact NZ λl=>g l}}}
 have g:=dY h2;intro i j hi m e;rcases RH i j with b|rfl|b;{exact absurd e (pi (g j m) i b)};{rfl};{exact absurd e.symm (pi (g i hi) j b)}
def fP (f:Nat->af):List Nat->List Nat->Prop
 |_,[]=>True
 |pre,x::xs=>x ∉ pre/\(∀i,i<(f x).f->((f x).m i).ask=ZF->((f x).m i).L.toNat∈pre)/\fP f (pre++[x]) xs
theorem jl {f:Nat->af}:∀{a g b:List Nat},fP f g a->fP f (g++a) b->fP f g (a++b)
 |[],g,b,_,h=>by simpa using h
 |x::xs,g,b,h,k=>⟨h.1,h.2.1,jl (a:=xs) h.2.2 (by simpa using k)⟩
theorem kQ {f:Nat->af}:∀{a b p:List Nat} {x:Nat} {q:List Nat},fP f b a->a=p++x::q->x ∉ b++p/\∀i,i<(f x).f->((f x).m i).ask=ZF->((f x).m i).L.toNat∈b++p
 |[],b,p,x,q,_,e=>by cases p<;>cases e
 |y::ys,b,[],x,q,h,e=>by simp only[J2,List.cons.injEq] at e;obtain⟨rfl,rfl⟩:=e;rw[QU];exact⟨h.1,h.2.1⟩
 |y::ys,b,z::p,x,q,h,e=>by simp only[LQ,List.cons.injEq] at e;obtain⟨rfl,rfl⟩:=e;have:=kQ (p:=p) (x:=x) (q:=q) h.2.2 rfl;simpa using this
def plc (r:(Nat->Bool) × List (Nat × Nat)):List Nat:=r.2.map λz=>z.1
theorem og {f:Nat->af}{n:Nat}(m:cG f n):∀k p d s (b:List Nat),p<k->p<n->s p=ZB->(∀q,s q=ZF ↔ q∈b)->fP f b (plc (lst f k p d s))/\∀q,(lst f k p d s).1 q=ZF ↔ q∈b++plc (lst f k p d s)
 |0,_,_,_,_,h,_,_,_=>absurd h (IT _)
 |k+1,p,d,s,b,hk,hn,u,hS=>by
  have y:∀j,j<=(f p).f->fP f b (plc (lks (lst f k) (f p) d s j))/\(∀q,(lks (lst f k) (f p) d s j).1 q=ZF ↔ q∈b++plc (lks (lst f k) (f p) d s j))/\∀i,i<j->((f p).m i).ask=ZF->((f p).m i).L.toNat∈b++plc (lks (lst f k) (f p) d s j):=by
   intro j;induction j with
   |zero=>exact λ_=>⟨trivial,by simpa[lks,plc] using hS,λi hi=>absurd hi (IT _)⟩
   |succ j C =>
    intro hj;obtain⟨h1,h2,t⟩:=C (by omega);rw[lks];split
    ·rename_i l
     have ha:=(m p hn j (by omega) l.1).1;obtain⟨A,B⟩:=og m k _ (d+1) _ (b++plc (lks (lst f k) (f p) d s j)) (by omega) (by omega) l.2 h2;obtain⟨o,z⟩:=(fG m k _ (d+1) _ (by omega) (by omega) l.2).last;have e:plc ((lst f k ((f p).m j).L.toNat (d+1) (lks (lst f k) (f p) d s j).1).1,(lks (lst f k) (f p) d s j).2++(lst f k ((f p).m j).L.toNat (d+1) (lks (lst f k) (f p) d s j).1).2)=plc (lks (lst f k) (f p) d s j)++plc (lst f k ((f p).m j).L.toNat (d+1) (lks (lst f k) (f p) d s j).1):=by unfold plc;exact AI
     rw[e];refine⟨jl h1 A,λq=>by rw[<-KK];exact B q,λi hi g=>?_⟩;by_cases r:i=j
     ·subst r
      refine LM _ (LM _ ?_);unfold plc;rw[z];simp
     ·rw[<-KK]
      exact KM _ (t i (by omega) g)
    ·rename_i l
     refine⟨h1,h2,λi hi g=>?_⟩;by_cases r:i=j
     ·subst r
      rw[<-h2];cases hv:(lks (lst f k) (f p) d s i).1 ((f p).m i).L.toNat with
      |true=>rfl
      |false=>exact absurd ⟨g,hv⟩ l
     ·exact t i (by omega) g
  obtain⟨h1,h2,t⟩:=y (f p).f ly;have D:(lks (lst f k) (f p) d s (f p).f).1 p=ZB:=((pW (d:=d) (s:=s) m hn (λq d s hq u=>fG m k q d s (by omega) (by omega) u) (f p).f ly).1 p ly).trans u;have e:plc (lst f (k+1) p d s)=plc (lks (lst f k) (f p) d s (f p).f)++[p]:=by unfold plc;rw[lst];exact AI
  rw[e];refine⟨jl h1 ⟨λx=>?_,t,trivial⟩,λq=>?_⟩
  ·rw[<-h2,D] at x
   cases x
  ·show put _ p q=ZF ↔ _
   rw[<-KK,n6,j4,<-h2,put];simp;exact Or.comm
theorem sS {f:Nat->af}{n:Nat}(l:cG f n):∀k b p d s,p<k->p<b->p<n->lst f k p d s=lst f b p d s
 |0,_,_,_,_,h,_,_=>absurd h (IT _)
 |_+1,0,_,_,_,_,h,_=>absurd h (IT _)
 |k+1,b+1,p,d,s,h1,h2,hn=>by
  have i:∀j,j<=(f p).f->lks (lst f k) (f p) d s j=lks (lst f b) (f p) d s j:=by
   intro j;induction j with
   |zero=>intro _;rfl
   |succ j m =>
    intro hj;have e:=m (by omega);rw[lks,lks,e];by_cases g:((f p).m j).ask=ZF
    ·have ha:=(l p hn j (by omega) g).1
     rw[sS l k b _ (d+1) _ (by omega) (by omega) (by omega)]
    ·rw[eT (λh=>g h.1),eT (λh=>g h.1)]
  rw[lst,lst,i _ ly ]
def bC (f:Nat->af)(p:Nat):List Nat:=plc (lst f (p+1) p 0 λ_=>ZB)
theorem mf (g:cG f n)(b:p<n):fP f [] (bC f p):=(og g (p+1) p 0 (λ_=>ZB) [] (gM _) b rfl (by simp)).1
theorem zo (g:cG f n)(b:p<n):plc (lst f n p 0 λ_=>ZB)=bC f p:=by unfold bC;rw[sS g n (p+1) p 0 _ b (gM _) b]
theorem sT{m:Nat}(b:cG f n)(h:m<=n):cG f m:=λp hp=>b p (by omega)
theorem sU (p:Nat):(aw f (p+1)).map (λz=>z.1)=bC f p:=rfl
theorem mX (h:cG f n)(g:p<n):∀q∈bC f p,q<=p:=by intro q b;unfold bC plc at b;obtain⟨z,hz,rfl⟩:=LA.1 b;exact(fG h (p+1) p 0 (λ_=>ZB) (gM _) g rfl).le z hz
theorem gS (i:cG f n)(hp:p<n):(bC f p).length<=p+1/\1<=(bC f p).length:=by have h:=fG (sT i (by omega:p+1<=n)) (p+1) p 0 (λ_=>ZB) (gM _) (gM _) rfl;have h1:=h.num;have h2:=ze (lst f (p+1) p 0 λ_=>ZB).1 (p+1);obtain⟨o,b⟩:=h.last;have g:=CD List.length b;unfold bC plc;rw[LR];simp at g;omega
def dG (L:List Nat)(l:Link):Link:=if l.ask=ZF then { l with L:=(L.idxOf l.L.toNat:Int) } else l
def mv (f:Nat->af)(L:List Nat)(x:Nat):af:={ f x with m:=λj=>dG L ((f x).m j) }
def fk:af:={ e:=⟨#[]⟩,H:=0,E:=0,B:=⟨#[]⟩,l:=0,u:=λ_=>⟨0,⟨#[]⟩,0⟩,f:=0,m:=λ_=>⟨⟨#[]⟩,ZB,ZB,0⟩ }
def dF (L:List af)(i:Nat):af:=L.getD i fk
def bZ (f:Nat->af)(t:ByteArray)(n:Nat):Int:=aE (λi=>!((f i).e.toList == t.toList)) n
def bs (f:Nat->af)(p:Nat):List af:=(bC f p).map (mv f (bC f p))
def cD (f:Nat->af)(n:Nat)(t:ByteArray):List af :=
 if aK f n=ZF then
  if bZ f t n=-1 then [] else
  if aK (dF (bs f (bZ f t n).toNat)) (bs f (bZ f t n).toNat).length=ZF then bs f (bZ f t n).toNat else []
 else []
theorem iL (g:Nat->Bool)(n:Nat):aE g n=-1∨∃i:Nat,aE g n=(i:Int)/\i<n/\g i=ZB/\∀j,j<i->g j=ZF:=by
 induction n with
 |zero=>exact .inl rfl
 |succ k f =>
  rw[aE];rcases f with h|⟨i,h,hi,b,l⟩
  ·rw[hU h];cases hk:g k with
   |true=>exact .inl rfl
   |false=>exact .inr ⟨k,rfl,gM _,hk,dY h⟩
  {rw[eT (by omega)];exact .inr ⟨i,h,by omega,b,l⟩}
theorem zp (x:aK f n=ZF){b:List Nat}(m:∀q∈b,q<n)(s:p∈b)(g:Nat->af)(r:∀i (h:i<b.length),(g i).e=(f b[i]).e){t:ByteArray}(u:(f p).e.toList=t.toList):aE (λi=>!((g i).e.toList == t.toList)) b.length=((b.idxOf p:Nat):Int):=by
 have l:=QC s;refine dX l ?_ λj A=>?_;{rw[r _ l,UE l,u];simp}
 ·have o:j<b.length:=by omega
  rw[r j o];have z:b[j]≠p:=λe=>by have:=List.not_of_lt_findIdx (p:=λy=>y == p) (xs:=b) (i:=j) A;simp[e] at this
  have:(f b[j]).e.toList≠t.toList:=λe=>z (eB x _ _ (m _ (gz o)) (m _ s) (e.trans u.symm));simp[this]
structure DBox (w:G)(b:Nat)(v0 v1 v2 v3 v4 v5:ZD):Prop where
 lt:b<w.heap.size
 c0:ZV w (Q b 0 Y)=T v0/\ZW w (Q b 0 Y)=ZB
 c1:ZV w (Q b 1 Y)=T v1/\ZW w (Q b 1 Y)=ZB
 c2:ZV w (Q b 2 Y)=T v2/\ZW w (Q b 2 Y)=ZB
 c3:ZV w (Q b 3 Y)=T v3/\ZW w (Q b 3 Y)=ZB
 c4:ZV w (Q b 4 Y)=T v4/\ZW w (Q b 4 Y)=ZB
 c5:ZV w (Q b 5 Y)=T v5/\ZW w (Q b 5 Y)=ZB
theorem DBox.ab{w':G}{n:ZD}(h:DBox w b i n m l g j)(hz:w.heap.size<=w'.heap.size)(e:w'.heap[b]?=w.heap[b]?):DBox w' b i n m l g j :=
 have c:∀o,ZV w' (Q b o Y)=ZV w (Q b o Y):=λo=>cq (a:=(Q b o Y)) e;have f:∀o,ZW w' (Q b o Y)=ZW w (Q b o Y):=λo=>LF (a:=(Q b o Y)) e
 ⟨lj h.lt hz,⟨(c 0).trans h.c0.1,(f 0).trans h.c0.2⟩,⟨(c 1).trans h.c1.1,(f 1).trans h.c1.2⟩,⟨(c 2).trans h.c2.1,(f 2).trans h.c2.2⟩,⟨(c 3).trans h.c3.1,(f 3).trans h.c3.2⟩,⟨(c 4).trans h.c4.1,(f 4).trans h.c4.2⟩,⟨(c 5).trans h.c5.1,(f 5).trans h.c5.2⟩⟩
theorem DBox.aa{l:G}{n f:ZD}(h:DBox w b g n m j f i)(hb:Below B w l)(o:b<B):DBox l b g n m j f i:=h.ab hb.size (hb.block b o)
theorem DBox.far{f:ZD}(h:DBox w b g m l j f i){p:Addr}(n:p.block≠b)(v:ZD):DBox (w.setCell p v) b g m l j f i:=h.ab (by simp) (qh _ _ _ _ (λe=>n e.symm))
theorem DBox.set1{f:ZD}(h:DBox w b g m l j f i)(v:ZD):DBox (ZT w (Q b 1 Y) v) b g v l j f i :=
 ⟨by simpa using h.lt,⟨(sq _ _ _ _ (by simp)).trans h.c0.1,by simpa using h.c0.2⟩,⟨AT _ _ _ (by rw[h.c1.1];rfl),by simpa using h.c1.2⟩,⟨(sq _ _ _ _ (by simp)).trans h.c2.1,by simpa using h.c2.2⟩,⟨(sq _ _ _ _ (by simp)).trans h.c3.1,by simpa using h.c3.2⟩,⟨(sq _ _ _ _ (by simp)).trans h.c4.1,by simpa using h.c4.2⟩,⟨(sq _ _ _ _ (by simp)).trans h.c5.1,by simpa using h.c5.2⟩⟩
theorem DBox.set2{f:ZD}(h:DBox w b g l m j f i)(v:ZD):DBox (ZT w (Q b 2 Y) v) b g l v j f i :=
 ⟨by simpa using h.lt,⟨(sq _ _ _ _ (by simp)).trans h.c0.1,by simpa using h.c0.2⟩,⟨(sq _ _ _ _ (by simp)).trans h.c1.1,by simpa using h.c1.2⟩,⟨AT _ _ _ (by rw[h.c2.1];rfl),by simpa using h.c2.2⟩,⟨(sq _ _ _ _ (by simp)).trans h.c3.1,by simpa using h.c3.2⟩,⟨(sq _ _ _ _ (by simp)).trans h.c4.1,by simpa using h.c4.2⟩,⟨(sq _ _ _ _ (by simp)).trans h.c5.1,by simpa using h.c5.2⟩⟩
theorem DBox.set3{f:ZD}(h:DBox w b g l j m f i)(v:ZD):DBox (ZT w (Q b 3 Y) v) b g l j v f i :=
 ⟨by simpa using h.lt,⟨(sq _ _ _ _ (by simp)).trans h.c0.1,by simpa using h.c0.2⟩,⟨(sq _ _ _ _ (by simp)).trans h.c1.1,by simpa using h.c1.2⟩,⟨(sq _ _ _ _ (by simp)).trans h.c2.1,by simpa using h.c2.2⟩,⟨AT _ _ _ (by rw[h.c3.1];rfl),by simpa using h.c3.2⟩,⟨(sq _ _ _ _ (by simp)).trans h.c4.1,by simpa using h.c4.2⟩,⟨(sq _ _ _ _ (by simp)).trans h.c5.1,by simpa using h.c5.2⟩⟩
theorem DBox.set4{f:ZD}(h:DBox w b f l j i m g)(v:ZD):DBox (ZT w (Q b 4 Y) v) b f l j i v g :=
 ⟨by simpa using h.lt,⟨(sq _ _ _ _ (by simp)).trans h.c0.1,by simpa using h.c0.2⟩,⟨(sq _ _ _ _ (by simp)).trans h.c1.1,by simpa using h.c1.2⟩,⟨(sq _ _ _ _ (by simp)).trans h.c2.1,by simpa using h.c2.2⟩,⟨(sq _ _ _ _ (by simp)).trans h.c3.1,by simpa using h.c3.2⟩,⟨AT _ _ _ (by rw[h.c4.1];rfl),by simpa using h.c4.2⟩,⟨(sq _ _ _ _ (by simp)).trans h.c5.1,by simpa using h.c5.2⟩⟩
theorem DBox.set5{f:ZD}(h:DBox w b g l j i f m)(v:ZD):DBox (ZT w (Q b 5 Y) v) b g l j i f v :=
 ⟨by simpa using h.lt,⟨(sq _ _ _ _ (by simp)).trans h.c0.1,by simpa using h.c0.2⟩,⟨(sq _ _ _ _ (by simp)).trans h.c1.1,by simpa using h.c1.2⟩,⟨(sq _ _ _ _ (by simp)).trans h.c2.1,by simpa using h.c2.2⟩,⟨(sq _ _ _ _ (by simp)).trans h.c3.1,by simpa using h.c3.2⟩,⟨(sq _ _ _ _ (by simp)).trans h.c4.1,by simpa using h.c4.2⟩,⟨AT _ _ _ (by rw[h.c5.1];rfl),by simpa using h.c5.2⟩⟩
theorem fT (w:G)(j h f b i g:ZD)(t:ZI):DBox (ZU w (N #[j,h,f,b,i,g] t)) w.heap.size j h f b i g:=by refine⟨by simp,?_,?_,?_,?_,?_,?_⟩<;>simp
theorem AY (w:G)(f j i h b g u0 u1 u2 u3 u4 u5:ZD)(t:ZI):DBox (ZU (ZU w (N #[f,j,i,h,b,g] t)) (N #[u0,u1,u2,u3,u4,u5] t)) w.heap.size f j i h b g/\DBox (ZU (ZU w (N #[f,j,i,h,b,g] t)) (N #[u0,u1,u2,u3,u4,u5] t)) (w.heap.size+1) u0 u1 u2 u3 u4 u5:=by
 have hz:(ZU w (N #[f,j,i,h,b,g] t)).heap.size=w.heap.size+1:=by simp
 refine⟨(fT w f j i h b g t).aa ((cM (w.heap.size+1) _).alloc (by omega) _) (gM _),?_⟩;have:=fT (ZU w (N #[f,j,i,h,b,g] t)) u0 u1 u2 u3 u4 u5 t;rw[hz] at this;exact this
theorem AZ (b off m c:Nat)(g:Nat->af)(t:ByteArray)(w:G)(hmm:(m:Int)<=1048576)(l:RowDeed w b off m g):Calls Pg 21 #[ZH #[Z (T (Q b off Y)) m c],U t] w λe u=>e=ZG (J I (bZ g t m))/\Below w.heap.size w u:=by
 obtain⟨W,f⟩:∃W:G,ZU w (N #[Z (T (Q b off Y)) m c] 25)=W:=⟨_,rfl⟩
 obtain⟨q,-,-⟩:=nb1 f;have h:=ae f;clear f;have s:=ae (l.aa q ly);have k0:ZV W (Q w.heap.size 0 Y)=T (Z (T (Q b off Y)) m c):=by rw[<-h.out];simp
 clear l;go_enter func21,ntmps21;go_wp2;rw[h.out];clear h;go_loop [5] (λi=>∃k:Nat,k<=m/\i=J I k/\Hid (∀j,j<k->(!((g j).e.toList == t.toList))=ZF)) (λi=>m - (intOf i).toNat);case atStart=>exact⟨0,by omega,rfl,λj r=>absurd r (IT _)⟩
 case round =>
  obtain⟨k,hk,rfl,p⟩:=hrel;by_cases n:k<m
  ·obtain⟨c0,_⟩:=s.2 k n;cases hb:((g k).e.toList == t.toList) with
   |true =>have o:=ae hb;go_wp2;go_ret;refine⟨?_,q⟩;rw[bZ,dX n (by rw[o.out];rfl) p.out];rfl
   |false =>
    have o:=ae hb;go_wp2;refine⟨⟨k+1,by omega,by go_num,λj r=>?_⟩,by simp[intOf];omega⟩;by_cases e:j=k;{subst e;rw[o.out];rfl};{exact p j (by omega)}
  ·have e:k=m:=by omega
   subst e;go_wp2;go_ret;refine⟨?_,q⟩;rw[bZ,dn p.out];rfl
theorem A8 (a:Option Addr)(c:Nat)(g:Nat->af)(t:ByteArray)(w:G):Calls Pg 21 #[ZH #[Z a 0 c],U t] w λe h=>e=ZG (J I (bZ g t 0))/\Below w.heap.size w h:=by
 have b:=ae ((q9 w).alloc ly (N #[Z a 0 c] 25));have f:ZV (ZU w (N #[Z a 0 c] 25)) (Q w.heap.size 0 Y)=T (Z a 0 c):=by simp
 go_enter func21,ntmps21;go_wp2;generalize World.alloc w _=W at b f ⊢;go_loop [5] (λi=>i=J I 0) (λ_=>0);case atStart=>rfl
 case round =>subst hrel;go_wp2;go_ret;exact⟨rfl,b⟩
theorem oh (a:Option Addr)(m c:Nat)(g:Nat->af)(t:ByteArray)(w:G)(f:(m:Int)<=1048576)(h:SlDeed w a m g):Calls Pg 21 #[ZH #[Z a m c],U t] w λe j=>e=ZG (J I (bZ g t m))/\Below w.heap.size w j:=by
 by_cases hz:m=0;{subst hz;exact A8 a c g t w};{obtain⟨b,off,rfl,i⟩:=h.resolve_left hz;exact AZ b off m c g t w f i}
theorem sV (x:af)(l i:Option Addr)(f j c4 c5 b:Nat)(t:ByteArray)(w:G)(hn:ZV w (Q b 0 Y)=T (U t))(h:b<w.heap.size):Calls Pg 19 #[ZH #[U x.e,J I x.H,J I x.E,U x.B,Z l f c4,Z i j c5],.pointer (T (Q b 0 Y))] w λe m=>e=ZG (ZC (x.e.toList == t.toList))/\Below w.heap.size w m:=by have g:=ae ((q9 w).alloc ly (N #[U x.e,J I x.H,J I x.E,U x.B,Z l f c4,Z i j c5] 44));have n0:=(g.out.cell (p:=(Q b 0 Y)) h).trans hn;clear hn;go_enter func19,ntmps19;go_wp2;go_ret;exact⟨rfl,g.out⟩
theorem uZ (b off m c:Nat)(g:Nat->af)(h:Nat)(t:ByteArray)(w:G)(hmm:(m:Int)<=1048576)(o:RowDeed w b off m g)(hn:ZV w (Q h 0 Y)=T (U t))(l:h<w.heap.size):Calls Pg 18 #[Z (T (Q b off Y)) m c,.func (.func 19) #[] #[.pointer (T (Q h 0 Y))]] w λe E=>e=ZG (J I (bZ g t m))/\Below w.heap.size w E:=by
 have ZS:=ae o;have y:=ae hn;clear o hn;go_enter func18,ntmps18;go_wp2;go_loopw [8] (λi wr=>∃k:Nat,k<=m/\i=J I k/\Hid (∀j,j<k->(!((g j).e.toList == t.toList))=ZF)/\Hid (Below w.heap.size w wr)) (λi _=>m - (intOf i).toNat);case atStart=>exact⟨0,by omega,rfl,λj C=>absurd C (IT _),cM _ _⟩
 case round =>
  obtain⟨k,hk,rfl,u,f⟩:=hrel;by_cases r:k<m
  ·obtain⟨c0,c1,c2,c3,⟨A,z,c4,_⟩,⟨x,B,c5,_⟩⟩:=(ZS.out.aa f.out ly).2 k r;cases hb:((g k).e.toList == t.toList) with
   |true =>have q:=ae hb;clear hb;go_wp2_with (go_at_call 19;refine(sV (g k) A x _ _ z B h t _ ((f.out.cell (p:=(Q h 0 Y)) l).trans y.out) (lj l f.out.size)).mono ?_;rintro e D ⟨rfl,n⟩;rw[q.out];have s:=ae (f.out.trans (n.mono f.out.size));clear n);go_ret;refine⟨?_,s.out⟩;rw[bZ,dX r (by rw[q.out];rfl) u.out];rfl
   |false =>
    have q:=ae hb;clear hb;go_wp2_with (go_at_call 19;refine(sV (g k) A x _ _ z B h t _ ((f.out.cell (p:=(Q h 0 Y)) l).trans y.out) (lj l f.out.size)).mono ?_;rintro e D ⟨rfl,n⟩;rw[q.out];have s:=ae (f.out.trans (n.mono f.out.size));clear n);refine⟨⟨k+1,by omega,by go_num,λj C=>?_,s.out⟩,by simp[intOf];omega⟩;by_cases e:j=k;{subst e;rw[q.out];rfl};{exact u.out j (by omega)}
  ·have e:k=m:=by omega
   subst e;go_wp2;go_ret;refine⟨?_,f.out⟩;rw[bZ,dn u.out];rfl
