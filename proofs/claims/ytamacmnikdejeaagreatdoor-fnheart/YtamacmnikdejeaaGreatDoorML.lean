import Derived.Test.YtamacmnikdejeaaGreatDoorMD
import Derived.OneCell
import Derived.OwnWalk
import Derived.Maps.AppendAt
import Derived.Deep.RegionLaw
set_option maxRecDepth 100000
set_option maxHeartbeats 4000000
set_option linter.unusedSimpArgs false
open Go renaming Addr.mk->Q,Value.slice->Y,Value.string->U,Value.int->J,Value.bool->ZC,Value.agg->ZG,Obj.cells->N,IntKind.i64->I,World->E,Value->ZB,TypeId->ZH,Ending.returned->ZF,World.heap->z,World.frozen?->B,Proofs.Tryz.prog->Pg
open Option renaming none->Z,some->T
open Bool renaming false->ZA,true->ZD
open Array renaming size->A
namespace Go.Proofs.YtamacmnikdejeaaGreatDoor.Vp
open Tryz RowKit
variable {w:E}{n b ZT size:Nat}{j l g i m f:ZB}{e:ZH}{P:Program}{o:Oper}{a:Act}{ZM:Exit->Act->E->Prop}{ZR:Array Oper}{K:Act->E->Prop}{ZQ:Prop}
def cJ (g:Nat->ByteArray):Nat->Bool
 |0=>ZD
 |k+1=>cJ g k && aB (g k)
theorem tm{g:Nat->ByteArray}{k:Nat}(h:k<=n)(hn:cJ g n=ZD):cJ g k=ZD:=by
 induction n with
 |zero =>
  obtain rfl:k=0:=by omega
  exact hn
 |succ m b =>
  by_cases e:k=m+1;{subst e;exact hn};{simp only[cJ,nD] at hn;exact b (by omega) hn.1}
theorem iy{g:Nat->ByteArray}{k:Nat}(h:k<n)(b:aB (g k)=ZA):cJ g n=ZA:=by
 cases e:cJ g n with
 |false=>rfl
 |true =>have h2:=tm (show k+1<=n by omega) e;simp[cJ,b] at h2
theorem xy (a0 a1:Option Addr)(n0 c0 n1 c1:Nat)(w:E)(h0:(n0:Int)<=1048576)(h1:(n1:Int)<=1048576):Calls Pg 106 #[ZG #[Y a0 n0 c0,Y a1 n1 c1]] w λe b=>e=ZF (J I ((n0:Int)+n1))/\Below (A (z w)) w b:=by go_enter func106,ntmps106;go_wp2;go_ret;exact⟨rfl,br.alloc ly _⟩
theorem tr (b off n cap:Nat)(g:Nat->ByteArray)(w:E)(hn:(n:Int)<=1048576)(m:RowStr w b off n g):Calls Pg 109 #[Y (T (Q b off Z)) n cap] w λe s=>e=ZF (ZC (cJ g n))/\Below (A (z w)) w s:=by
 have r:=ae m;clear m;go_enter func109,ntmps109;go_wp2;go_loopw [7] (λi wr=>∃k:Nat,k<=n/\i=J I k/\Hid (cJ g k=ZD)/\Below (A (z w)) w wr) (λi _=>n - (intOf i).toNat);case atStart=>exact⟨0,by omega,rfl,rfl,cM _ _⟩
 case round =>
  obtain⟨k,hk,rfl,q,p⟩:=hrel;have f:=ae p;clear p;by_cases j:k<n
  ·have c0:=(r.aa f ly).2 k j;go_wp2_with fail;refine(eV _ _).mono ?_;rintro e w1 ⟨rfl,h⟩;have o:=ae (f.trans (h.mono f.size));clear h;cases hq:aB (g k) with
   |true =>have l:=ae hq;clear hq;go_wp2;exact⟨⟨k+1,by omega,by go_num,by show cJ g (k+1)=ZD;simp[cJ,q.out,l.out],o.out⟩,by simp[intOf];omega⟩
   |false =>have l:=ae hq;clear hq;go_wp2;go_ret;exact⟨bj (iy j l).symm,o⟩
  ·have e:k=n:=by omega
   subst e;go_wp2;go_ret;exact⟨bj q.symm,f⟩
theorem ts (a:Option Addr)(cap:Nat)(w:E):Calls Pg 109 #[Y a 0 cap] w λe b=>e=ZF (ZC ZD)/\b=w:=by
 go_enter func109,ntmps109;go_wp2;go_loop [7] (λi=>i=J I 0) (λ_=>0);case atStart=>rfl
 case round =>subst hrel;go_wp2;go_ret;exact⟨rfl,rfl⟩
theorem mh (a:Option Addr)(n cap:Nat)(g:Nat->ByteArray)(w:E)(hn:(n:Int)<=1048576)(f:SlStr w a n g):Calls Pg 109 #[Y a n cap] w λe h=>e=ZF (ZC (cJ g n))/\Below (A (z w)) w h:=by
 rcases f with rfl|⟨b,off,rfl,f⟩
 {exact(ts a cap w).mono λe h ⟨p,q⟩=>⟨p,by rw[q];exact cM _ _⟩};{exact tr b off n cap g w hn f}
def aL (g:Nat->ByteArray):Nat->Bool
 |0=>ZD
 |1=>ZD
 |k+2=>aL g (k+1) && Op.bytesLess (g k).toList (g (k+1)).toList
theorem gB{g:Nat->ByteArray}{k:Nat}(h:k<=n)(hn:aL g n=ZD):aL g k=ZD:=by
 induction n with
 |zero =>
  obtain rfl:k=0:=by omega
  exact hn
 |succ m b =>
  by_cases e:k=m+1;{subst e;exact hn}
  ·cases m with
   |zero =>
    obtain rfl:k=0:=by omega
    rfl
   |succ j =>simp only[aL,nD] at hn;exact b (by omega) hn.1
theorem jN{g:Nat->ByteArray}{k:Nat}(h:k+1<n)(b:Op.bytesLess (g k).toList (g (k+1)).toList=ZA):aL g n=ZA:=by
 cases e:aL g n with
 |false=>rfl
 |true =>have h2:=gB (show k+2<=n by omega) e;simp[aL,b] at h2
theorem sy (b off n cap:Nat)(g:Nat->ByteArray)(w:E)(hn:(n:Int)<=1048576)(m:RowStr w b off n g):Calls Pg 110 #[Y (T (Q b off Z)) n cap] w λe r=>e=ZF (ZC (aL g n))/\Below (A (z w)) w r:=by
 have q:=ae m;clear m;go_enter func110,ntmps110;go_wp2;go_loopw [3] (λi wr=>∃k:Nat,(k+1<=n∨k=0)/\i=J I ((k:Int)+1)/\Hid (aL g (k+1)=ZD)/\Below (A (z w)) w wr) (λi _=>n+1 - (intOf i).toNat);case atStart=>exact⟨0,.inr rfl,rfl,rfl,cM _ _⟩
 case round =>
  obtain⟨k,hk,rfl,p,o⟩:=hrel;have f:=ae o;clear o;by_cases h:k+1<n
  ·have c0:=(q.aa f ly).2 k (by omega);have c1:=(q.aa f ly).2 (k+1) h;have hlt':(k:Int)+1<n:=by omega
   go_wp2_with fail;go_quiet (fail);have j:=ae (AI f nq);clear c0 c1;generalize wr.drewN nq=W at j ⊢;cases hq:Op.bytesLess (g k).toList (g (k+1)).toList with
   |true =>have l:=ae hq;clear hq;go_wp2;exact⟨⟨k+1,.inl (by omega),by go_num,by show aL g (k+2)=ZD;simp[aL,p.out,l.out],j.out⟩,by simp[intOf];omega⟩
   |false =>have l:=ae hq;clear hq;go_wp2;go_ret;exact⟨bj (jN h l).symm,j⟩
  ·have hge:¬ (k:Int)+1<n:=by omega
   go_wp2;go_ret;exact⟨bj (gB (show n<=k+1 by omega) p.out).symm,f.out⟩
theorem aW (L:o.guard=Z)(s x:Operand)(t:ZH)
  (ZK:o.op=.call { callee:=.builtin .append,args:=#[s,x],argTypes:=#[t,t] })
  (b:Nat) (e:ZH) (i:TypeInfo) (ZS:ZB) (size f:Nat) (R:P.underlying t=T (.slice e)) (hi:P.info? e=T i) (hz:i.zero=T ZS)
  (r:i.size=size) (H:i.bytes=f) (G:ZS.cells.size=size) (ZO:0<size)
  (v:ZB) (n:Nat) (ZT:List ZB) (O:a.eval s=v) (C:w.ownsRow b e size v n ZT)
  (D:Addr) (m c:Nat) (news:List ZB) (S:a.eval x=Y (T D) m c) (ZL:news.length=m*size) (y:∀j u,news[j]?=T u->w.cell? (D.add j)=T u) (h1:∀u∈news,u.oneCell'=ZD)
  (ZP:n+m<=maxLen) (l:(n+m)*f<=140737488355328) (q:b<=A (z w))
  (h:∀g p,p.ownsRow b e size g (n+m) (ZT++news)->w.grownBy p v.ownBlock->(g.ownBlock=v.ownBlock∨g.ownBlock=T (A (z w)))->K (a.put o.dst g) p) :
  if Region.wanted o (yielded ZR a.tmps)=ZD then Oper.wp P o a w K ZM else ZQ:=by
 have ZN:Region.wanted o (yielded ZR a.tmps)=ZD:=by simp[Region.wanted,L]
 rw[j6 ZN];obtain⟨g,p,M,h2,W,h4,V⟩:=run_append_own_at (P:=P) w b t o.type e i ZS size f R hi hz r H G ZO v n ZT C D m c news ZL y h1 ZP l q;unfold Oper.wp execOp;simp only[ZK,resolve,invoke,builtin,Sem.run_bind,Sem.run_pure,Result.andThen_ok,List.map_toArray,PQ,R8,O,S,M];exact h g p h2 W V
theorem bX (w:E){rest:List Oper}(K:o.guard=Z)(s x:Operand)(t:ZH)
  (S:o.op=.call { callee:=.builtin .append,args:=#[s,x],argTypes:=#[t,t] })
  (b:Nat) (e:ZH) (i:TypeInfo) (ZS:ZB) (size f:Nat) (ZN:P.underlying t=T (.slice e)) (hi:P.info? e=T i) (hz:i.zero=T ZS)
  (r:i.size=size) (G:i.bytes=f) (ZQ:ZS.cells.size=size) (ZO:0<size)
  (v:ZB) (n:Nat) (ZT:List ZB) (M:a.eval s=v) (C:w.ownsRow b e size v n ZT)
  (D:Addr) (m c:Nat) (news:List ZB) (O:a.eval x=Y (T D) m c) (R:news.length=m*size) (y:∀j u,news[j]?=T u->w.cell? (D.add j)=T u) (h1:∀u∈news,u.oneCell'=ZD)
  (H:n+m<=maxLen) (l:(n+m)*f<=140737488355328) (q:b<=A (z w))
  (h:∀g p,p.ownsRow b e size g (n+m) (ZT++news)->w.grownBy p v.ownBlock->(g.ownBlock=v.ownBlock∨g.ownBlock=T (A (z w)))->wpList P ZR ZM rest (a.put o.dst g) p) :
  wpList P ZR ZM (o::rest) a w:=by
 refine wpList_plain K λK' ZP=>?_;obtain⟨g,p,L,h2,ZK,h4,ZL⟩:=run_append_own_at (P:=P) w b t o.type e i ZS size f ZN hi hz r G ZQ ZO v n ZT C D m c news R y h1 H l q;unfold Oper.wp execOp;simp only[S,resolve,invoke,builtin,Sem.run_bind,Sem.run_pure,Result.andThen_ok,List.map_toArray,PQ,R8,M,O,L];exact ZP _ _ (h g p h2 ZK ZL)
theorem fk (w:E)(x:ZB)(t:ZH):∀j u,[x][j]?=T u->(w.alloc (N #[x] t)).cell? (((Q (A (z w)) 0 Z):Addr).add j)=T u:=by
 intro j u b;match j,b with
 |0,b=>simp at b;subst b;simp[Addr.add]
theorem fs{r:Array Oper}(L:o.guard=Z)(s x:Operand)(t:ZH)
  (ZL:o.op=.call { callee:=.builtin .append,args:=#[s,x],argTypes:=#[t,t] })
  (b:Nat) (e:ZH) (i:TypeInfo) (ZS:ZB) (size f:Nat) (O:P.underlying t=T (.slice e)) (hi:P.info? e=T i) (hz:i.zero=T ZS)
  (p:i.size=size) (H:i.bytes=f) (G:ZS.cells.size=size) (ZO:0<size)
  (v:ZB) (n:Nat) (y:List ZB) (ZN:a.eval s=v) (ZT:w.ownsRow b e size v n y)
  (C:Addr) (m c:Nat) (news:List ZB) (R:a.eval x=Y (T C) m c) (S:news.length=m*size) (q:∀j u,news[j]?=T u->w.cell? (C.add j)=T u) (h1:∀u∈news,u.oneCell'=ZD)
  (ZP:n+m<=maxLen) (g:(n+m)*f<=140737488355328) (l:b<=A (z w))
  (h:∀ZR D,D.ownsRow b e size ZR (n+m) (y++news)->w.grownBy D v.ownBlock->(ZR=Y Z 0 0 ↔ v=Y Z 0 0/\m=0)->K (a.put o.dst ZR) D) :
  if Region.wanted o (yielded r a.tmps)=ZD then Oper.wp P o a w K ZM else ZQ:=by
 have M:Region.wanted o (yielded r a.tmps)=ZD:=by simp[Region.wanted,L]
 rw[j6 M];exact wp_append_own w s x t ZL b e i ZS size f O hi hz p H G ZO v n y ZN ZT C m c news R S q h1 ZP g l h
theorem own_below{g:E}{v:ZB}{f:List ZB}(h:w.ownsRow b e size v n f)(hb:Below ZT w g)(j:A (z w)<=ZT):g.ownsRow b e size v n f :=
 h.kept (row:=Z) ⟨hb.os,hb.tape,hb.output,hb.size,λk i _=>hb.block k (lj i j)⟩ (by cases v.ownBlock<;>simp)
theorem aF{base':Nat}{v:ZB}{i:List ZB}(h:w.ownsRow b e size v n i)(hb:base'<=b):w.ownsRow base' e size v n i:=by
 refine⟨h.1,?_⟩;rcases h.2 with h|⟨g,cap,f,l,j,r⟩
 {exact .inl h};{exact .inr ⟨g,cap,f,l,nL hb j,r⟩}
theorem jO (W:E)(b:Array ZB)(ty:ZH)(g j:Nat)(v:ZB)(f:g=A (z W))(h:b[j]?=T v):(W.alloc (N b ty)).cell? (Q g j Z)=T v:=by subst f;simp[h]
theorem ja{v:ZB}{f:List ZB}(h:w.ownsRow b e 1 v n f)(hn:0<n):∃g cap,v=Y (T (Q g 0 Z)) n cap:=by
 rcases h.2 with ⟨_,h0⟩|⟨g,cap,cur,i,_⟩
 {omega};{exact⟨g,cap,i⟩}
def kK (g:Nat->ByteArray)(n:Nat):List ZB:=(List.range n).map λi=>U (g i)
theorem rm (g:Nat->ByteArray)(n:Nat):kK g (n+1)=kK g n++[U (g n)]:=by simp[kK,MB]
theorem zj{f:Nat}{v:ZB}{g:Nat->ByteArray}(h:w.ownsRow f e 1 v n (kK g n)):∃a cap,v=Y a n cap/\SlStr w a n g:=by
 rcases h.2 with ⟨rfl,rfl⟩|⟨b,cap,cur,rfl,hb,j,_⟩
 {exact⟨Z,0,rfl,.inl rfl⟩}
 ·refine⟨_,cap,rfl,.inr ⟨b,0,rfl,lt_of_block j,λi hi=>?_⟩⟩;have:=h.cells (g:=b) rfl i (U (g i)) (by simp[kK,hi]);rw[IT];have l:((Q b 0 Z):Addr).add i=(Q b i Z):=by unfold Addr.add;split<;>simp_all
  rwa[l] at this
theorem pj (b off n c0:Nat)(t:ZB)(a1:Option Addr)(n1 c1:Nat)(u:t=Y a1 n1 c1)(f:Nat->Source)(w:E)(hn:(n:Int)<=1048576)(r:RowSource w b off n f):Calls Pg 107 #[ZG #[Y (T (Q b off Z)) n c0,t]] w λe ZQ=>∃a cap,e=ZF (Y a n cap)/\SlStr ZQ a n (λi=>(f i).e)/\Below (A (z w)) w ZQ:=by
 subst u;have ZS:=ae r;clear r;obtain⟨ZT,hi,y,s,C⟩:=KZ gA;have H:=ae ((BS w).alloc ly (N #[Y (T (Q b off Z)) n c0,Y a1 n1 c1] 29));go_enter func107,ntmps107;go_wp2;go_loopw [3,9] (λv i wr=>∃k:Nat,k<=n/\i=J I k/\Hid (wr.ownsRow (A (z w)) 9 1 v k (kK (λi=>(f i).e) k))/\Below (A (z w)) w wr) (λ_ i _=>n - (intOf i).toNat);case atStart=>exact⟨0,by omega,rfl,CL _ _ _ _,H⟩
 case round =>
  obtain⟨k,hk,rfl,m,p⟩:=hrel;have q:=ae p;have x:A (z w)<=A (z wr):=p.size;clear p;by_cases ZR:k<n;{obtain⟨d0,d1⟩:=(ZS.2 k ZR).aa q ZS.1;go_wp2_with (at_builtin;refine E4 _ rfl (.tmp 13) (.tmp 16) 35 rfl (A (z w)) 9 ZT (U ⟨#[]⟩) 1 16 LL hi y s C rfl (by decide) _ k (kK (λi=>(f i).e) k) (by simp[Act.eval]) ((m.alloc _).alloc _) (Q (A (z wr)+1) 0 Z) 1 1 [U (f k).e] (by simp[Act.eval]) rfl (by rw[show (A (z wr))+1=(wr.alloc (N #[U (f k).e,U (f k).H] 121)).heap.size by simp];exact fk _ _ _) (by simp[Value.oneCell']) (by unfold maxLen;omega) (by omega) (by simp;omega) ?_;intro v' w2 h g o;have ZP:=ae h;have G:=ae (bg ((q.alloc x (N #[U (f k).e,U (f k).H] 121)).alloc (by simp;omega) (N #[U (f k).e] 9)) g (by simp;omega) (λj e=>(m.lt j e).1));clear h g o);exact⟨⟨k+1,by omega,by go_num,by show World.ownsRow _ _ _ _ _ _ _;rw[rm];exact ZP,G⟩,by simp[intOf];omega⟩}
  ·have e:k=n:=by omega
   subst e;obtain⟨a,cap,rfl,l⟩:=zj m;have D:=ae l;clear l;go_wp2;go_ret;exact⟨a,cap,rfl,D,q⟩
theorem pk (a0:Option Addr)(c0:Nat)(a1:Option Addr)(n1 c1:Nat)(g:Nat->ByteArray)(w:E):Calls Pg 107 #[ZG #[Y a0 0 c0,Y a1 n1 c1]] w λe f=>∃a cap,e=ZF (Y a 0 cap)/\SlStr f a 0 g/\Below (A (z w)) w f:=by
 have h:=ae ((BS w).alloc ly (N #[Y a0 0 c0,Y a1 n1 c1] 29));go_enter func107,ntmps107;go_wp2;go_loopw [3,9] (λv i wr=>v=Y Z 0 0/\i=J I 0/\Below (A (z w)) w wr) (λ_ _ _=>0);case atStart=>exact⟨rfl,rfl,h⟩
 case round =>obtain⟨rfl,rfl,b⟩:=hrel;have j:=ae b;clear b;go_wp2;go_ret;exact⟨Z,0,rfl,.inl rfl,j⟩
theorem pn (a0:Option Addr)(n c0:Nat)(a1:Option Addr)(n1 c1:Nat)(f:Nat->Source)(w:E)(hn:(n:Int)<=1048576)(g:SlSource w a0 n f):Calls Pg 107 #[ZG #[Y a0 n c0,Y a1 n1 c1]] w λe h=>∃a cap,e=ZF (Y a n cap)/\SlStr h a n (λi=>(f i).e)/\Below (A (z w)) w h:=by
 rcases g with rfl|⟨b,off,rfl,g⟩
 {exact pk a0 c0 a1 n1 c1 _ w};{exact pj b off n c0 _ a1 n1 c1 rfl f w hn g}
theorem pq (b off n c0:Nat)(t:ZB)(a1:Option Addr)(n1 c1:Nat)(y:t=Y a1 n1 c1)(f:Nat->Target)(w:E)(hn:(n:Int)<=1048576)(r:RowTarget w b off n f):Calls Pg 108 #[ZG #[t,Y (T (Q b off Z)) n c0]] w λe H=>∃a cap,e=ZF (Y a n cap)/\SlStr H a n (λi=>(f i).e)/\Below (A (z w)) w H:=by
 subst y;have ZT:=ae r;clear r;obtain⟨D,hi,ZR,s,ZQ⟩:=KZ gA;have ZO:=ae ((BS w).alloc ly (N #[Y a1 n1 c1,Y (T (Q b off Z)) n c0] 29));go_enter func108,ntmps108;go_wp2;go_loopw [3,9] (λv i wr=>∃k:Nat,k<=n/\i=J I k/\Hid (wr.ownsRow (A (z w)) 9 1 v k (kK (λi=>(f i).e) k))/\Below (A (z w)) w wr) (λ_ i _=>n - (intOf i).toNat);case atStart=>exact⟨0,by omega,rfl,CL _ _ _ _,ZO⟩
 case round =>
  obtain⟨k,hk,rfl,m,p⟩:=hrel;have q:=ae p;have ZS:A (z w)<=A (z wr):=p.size;clear p;by_cases C:k<n;{obtain⟨d0,x,u,d1,_⟩:=(ZT.2 k C).aa q ly ZT.1;go_wp2_with (at_builtin;refine E4 _ rfl (.tmp 13) (.tmp 16) 35 rfl (A (z w)) 9 D (U ⟨#[]⟩) 1 16 LL hi ZR s ZQ rfl (by decide) _ k (kK (λi=>(f i).e) k) (by simp[Act.eval]) ((m.alloc _).alloc _) (Q (A (z wr)+1) 0 Z) 1 1 [U (f k).e] (by simp[Act.eval]) rfl (by rw[show (A (z wr))+1=(wr.alloc (N #[U (f k).e,Y x (f k).h u] 125)).heap.size by simp];exact fk _ _ _) (by simp[Value.oneCell']) (by unfold maxLen;omega) (by omega) (by simp;omega) ?_;intro v' w2 h g o;have K:=ae h;have ZP:=ae (bg ((q.alloc ZS (N #[U (f k).e,Y x (f k).h u] 125)).alloc (by simp;omega) (N #[U (f k).e] 9)) g (by simp;omega) (λj e=>(m.lt j e).1));clear h g o);exact⟨⟨k+1,by omega,by go_num,by show World.ownsRow _ _ _ _ _ _ _;rw[rm];exact K,ZP⟩,by simp[intOf];omega⟩}
  ·have e:k=n:=by omega
   subst e;obtain⟨a,cap,rfl,l⟩:=zj m;have G:=ae l;clear l;go_wp2;go_ret;exact⟨a,cap,rfl,G,q⟩
theorem pr (a0:Option Addr)(c0:Nat)(a1:Option Addr)(n1 c1:Nat)(g:Nat->ByteArray)(w:E):Calls Pg 108 #[ZG #[Y a1 n1 c1,Y a0 0 c0]] w λe f=>∃a cap,e=ZF (Y a 0 cap)/\SlStr f a 0 g/\Below (A (z w)) w f:=by
 have h:=ae ((BS w).alloc ly (N #[Y a1 n1 c1,Y a0 0 c0] 29));go_enter func108,ntmps108;go_wp2;go_loopw [3,9] (λv i wr=>v=Y Z 0 0/\i=J I 0/\Below (A (z w)) w wr) (λ_ _ _=>0);case atStart=>exact⟨rfl,rfl,h⟩
 case round =>obtain⟨rfl,rfl,b⟩:=hrel;have j:=ae b;clear b;go_wp2;go_ret;exact⟨Z,0,rfl,.inl rfl,j⟩
theorem pu (a0:Option Addr)(n c0:Nat)(a1:Option Addr)(n1 c1:Nat)(f:Nat->Target)(w:E)(hn:(n:Int)<=1048576)(g:SlTarget w a0 n f):Calls Pg 108 #[ZG #[Y a1 n1 c1,Y a0 n c0]] w λe h=>∃a cap,e=ZF (Y a n cap)/\SlStr h a n (λi=>(f i).e)/\Below (A (z w)) w h:=by
 rcases g with rfl|⟨b,off,rfl,g⟩
 {exact pr a0 c0 a1 n1 c1 _ w};{exact pq b off n c0 _ a1 n1 c1 rfl f w hn g}
theorem Ez (w:E)(e:ZH)(size:Nat):(w.alloc (N #[] e)).ownsRow (A (z w)) e size (Y (T (Q (A (z w)) 0 Z)) 0 0) 0 [] :=
 ⟨by simp,.inr ⟨A (z w),0,#[],rfl,nX _,gM w _,nX _,by unfold maxLen;omega,by simp,by simp⟩⟩
def bv (f:Nat->au)(n:Nat):Bool:=decide ((dh f n).1=0)
theorem fl{f:Nat->au}(h:bv f n=ZD):1<=n/\n<=400/\aI (bi f) n=-1:=by
 have h1:(dh f n).1=0:=MJ h;unfold dh at h1;split at h1;{simp at h1};{rename_i h2;refine⟨by omega,by omega,?_⟩;split at h1;{simp at h1};{rename_i b;exact NY λg=>b g}}
theorem nH{f:Nat->au}(h:bv f n=ZD):∀p,p<n->(f p).f<=200:=by
 intro p b;have h1:=ep (fl h).2.2 p b;simp only[bi,nD,kindOk] at h1;obtain⟨_,h2⟩:=h1;split at h2;{simp[aU] at h2;omega};{split at h2;{simp[aU] at h2;omega};{split at h2;{simp[bW] at h2;omega};{simp at h2}}}
theorem eS{f:Nat->au}(h:bv f n=ZD):∀p,p<n->∀j,j<(f p).f->((f p).m j).ask=ZD->0<=((f p).m j).G/\((f p).m j).G.toNat<p/\(f ((f p).m j).G.toNat).e.toList=((f p).m j).e.toList:=by
 intro p o j q l;have h1:=ep (fl h).2.2 p o;simp only[bi,nD,kindOk] at h1;obtain⟨_,h2⟩:=h1;have i:bI f p (f p) (f p).f=ZD:=by
  split at h2;{simp[aU] at h2;omega};{split at h2;{simp[aU] at h2;omega};{split at h2;{simp only[bW,nD] at h2;exact h2.2};{simp at h2}}}
 have b:=kG i j q;simp only[dH,l,if_true,nD,p6,PH] at b;obtain⟨_,⟨⟨_,g⟩,h5⟩,m⟩:=b;exact⟨g,by omega,m⟩
theorem pw{f:Nat->au}{p:Nat}(h:aR f p n=ZD):∀i,i<n->(f i).e.toList≠(f p).e.toList:=by
 induction n with
 |zero=>intro i hi;omega
 |succ n b =>
  simp only[aR,nD,Bool.not_eq_true',beq_eq_false_iff_ne] at h;intro i hi;by_cases e:i=n;{subst e;exact h.2};{exact b h.1 i (by omega)}
theorem jw{f:Nat->au}(h:bv f n=ZD):∀i j,i<n->j<n->(f i).e.toList=(f j).e.toList->i=j:=by
 have h1:(dh f n).1=0:=MJ h;have h2:aI (λp=>aR f p p) n=-1:=by
  unfold dh at h1;split at h1;{simp at h1};{split at h1;{simp at h1};{split at h1;{simp at h1};{rename_i g;exact NY λl=>g l}}}
 have g:=ep h2;intro i j hi m e;rcases SD i j with b|rfl|b;{exact absurd e (pw (g j m) i b)};{rfl};{exact absurd e.symm (pw (g i hi) j b)}
def fg:au:={ e:=⟨#[]⟩,L:=0,M:=0,H:=⟨#[]⟩,h:=0,u:=λ_=>⟨0,⟨#[]⟩,0⟩,f:=0,m:=λ_=>⟨⟨#[]⟩,ZA,ZA,0⟩ }
def dF (L:List au)(i:Nat):au:=L.getD i fg
def jb (f:Nat->au)(t:ByteArray)(n:Nat):Int:=aI (λi=>!((f i).e.toList == t.toList)) n
structure DBox (w:E)(b:Nat)(v0 v1 v2 v3 v4 v5:ZB):Prop where
 lt:b<A (z w)
 c0:w.cell? (Q b 0 Z)=T v0/\B w (Q b 0 Z)=ZA
 c1:w.cell? (Q b 1 Z)=T v1/\B w (Q b 1 Z)=ZA
 c2:w.cell? (Q b 2 Z)=T v2/\B w (Q b 2 Z)=ZA
 c3:w.cell? (Q b 3 Z)=T v3/\B w (Q b 3 Z)=ZA
 c4:w.cell? (Q b 4 Z)=T v4/\B w (Q b 4 Z)=ZA
 c5:w.cell? (Q b 5 Z)=T v5/\B w (Q b 5 Z)=ZA
theorem DBox.ab{w':E}{n:ZB}(h:DBox w b j l n g i m)(hz:A (z w)<=A (z w'))(e:w'.heap[b]?=w.heap[b]?):DBox w' b j l n g i m :=
 have c:∀o,w'.cell? (Q b o Z)=w.cell? (Q b o Z):=λo=>cq (a:=(Q b o Z)) e;have f:∀o,B w' (Q b o Z)=B w (Q b o Z):=λo=>KM (a:=(Q b o Z)) e
 ⟨lj h.lt hz,⟨(c 0).trans h.c0.1,(f 0).trans h.c0.2⟩,⟨(c 1).trans h.c1.1,(f 1).trans h.c1.2⟩,⟨(c 2).trans h.c2.1,(f 2).trans h.c2.2⟩,⟨(c 3).trans h.c3.1,(f 3).trans h.c3.2⟩,⟨(c 4).trans h.c4.1,(f 4).trans h.c4.2⟩,⟨(c 5).trans h.c5.1,(f 5).trans h.c5.2⟩⟩
theorem DBox.aa{m:E}{n:ZB}(h:DBox w b i j n f g l)(hb:Below ZT w m)(o:b<ZT):DBox m b i j n f g l:=h.ab hb.size (hb.block b o)
theorem DBox.far (h:DBox w b i j m f g l){p:Addr}(n:p.block≠b)(v:ZB):DBox (w.setCell p v) b i j m f g l:=h.ab (by simp) (qh _ _ _ _ (λe=>n e.symm))
theorem DBox.set1 (h:DBox w b i m l f g j)(v:ZB):DBox (w.setCell (Q b 1 Z) v) b i v l f g j :=
 ⟨by simpa using h.lt,⟨(sq _ _ _ _ (by simp)).trans h.c0.1,by simpa using h.c0.2⟩,⟨BO _ _ _ (by rw[h.c1.1];rfl),by simpa using h.c1.2⟩,⟨(sq _ _ _ _ (by simp)).trans h.c2.1,by simpa using h.c2.2⟩,⟨(sq _ _ _ _ (by simp)).trans h.c3.1,by simpa using h.c3.2⟩,⟨(sq _ _ _ _ (by simp)).trans h.c4.1,by simpa using h.c4.2⟩,⟨(sq _ _ _ _ (by simp)).trans h.c5.1,by simpa using h.c5.2⟩⟩
theorem DBox.set2 (h:DBox w b i j m f g l)(v:ZB):DBox (w.setCell (Q b 2 Z) v) b i j v f g l :=
 ⟨by simpa using h.lt,⟨(sq _ _ _ _ (by simp)).trans h.c0.1,by simpa using h.c0.2⟩,⟨(sq _ _ _ _ (by simp)).trans h.c1.1,by simpa using h.c1.2⟩,⟨BO _ _ _ (by rw[h.c2.1];rfl),by simpa using h.c2.2⟩,⟨(sq _ _ _ _ (by simp)).trans h.c3.1,by simpa using h.c3.2⟩,⟨(sq _ _ _ _ (by simp)).trans h.c4.1,by simpa using h.c4.2⟩,⟨(sq _ _ _ _ (by simp)).trans h.c5.1,by simpa using h.c5.2⟩⟩
theorem DBox.set3 (h:DBox w b g i l m f j)(v:ZB):DBox (w.setCell (Q b 3 Z) v) b g i l v f j :=
 ⟨by simpa using h.lt,⟨(sq _ _ _ _ (by simp)).trans h.c0.1,by simpa using h.c0.2⟩,⟨(sq _ _ _ _ (by simp)).trans h.c1.1,by simpa using h.c1.2⟩,⟨(sq _ _ _ _ (by simp)).trans h.c2.1,by simpa using h.c2.2⟩,⟨BO _ _ _ (by rw[h.c3.1];rfl),by simpa using h.c3.2⟩,⟨(sq _ _ _ _ (by simp)).trans h.c4.1,by simpa using h.c4.2⟩,⟨(sq _ _ _ _ (by simp)).trans h.c5.1,by simpa using h.c5.2⟩⟩
theorem DBox.set4 (h:DBox w b g i l f m j)(v:ZB):DBox (w.setCell (Q b 4 Z) v) b g i l f v j :=
 ⟨by simpa using h.lt,⟨(sq _ _ _ _ (by simp)).trans h.c0.1,by simpa using h.c0.2⟩,⟨(sq _ _ _ _ (by simp)).trans h.c1.1,by simpa using h.c1.2⟩,⟨(sq _ _ _ _ (by simp)).trans h.c2.1,by simpa using h.c2.2⟩,⟨(sq _ _ _ _ (by simp)).trans h.c3.1,by simpa using h.c3.2⟩,⟨BO _ _ _ (by rw[h.c4.1];rfl),by simpa using h.c4.2⟩,⟨(sq _ _ _ _ (by simp)).trans h.c5.1,by simpa using h.c5.2⟩⟩
theorem DBox.set5 (h:DBox w b i j l f g m)(v:ZB):DBox (w.setCell (Q b 5 Z) v) b i j l f g v :=
 ⟨by simpa using h.lt,⟨(sq _ _ _ _ (by simp)).trans h.c0.1,by simpa using h.c0.2⟩,⟨(sq _ _ _ _ (by simp)).trans h.c1.1,by simpa using h.c1.2⟩,⟨(sq _ _ _ _ (by simp)).trans h.c2.1,by simpa using h.c2.2⟩,⟨(sq _ _ _ _ (by simp)).trans h.c3.1,by simpa using h.c3.2⟩,⟨(sq _ _ _ _ (by simp)).trans h.c4.1,by simpa using h.c4.2⟩,⟨BO _ _ _ (by rw[h.c5.1];rfl),by simpa using h.c5.2⟩⟩
theorem jc (w:E)(f g j i b h:ZB)(t:ZH):DBox (w.alloc (N #[f,g,j,i,b,h] t)) (A (z w)) f g j i b h:=by refine⟨by simp,?_,?_,?_,?_,?_,?_⟩<;>simp
theorem Be (w:E)(g h i b f j u0 u1 u2 u3 u4 u5:ZB)(t:ZH):DBox ((w.alloc (N #[g,h,i,b,f,j] t)).alloc (N #[u0,u1,u2,u3,u4,u5] t)) (A (z w)) g h i b f j/\DBox ((w.alloc (N #[g,h,i,b,f,j] t)).alloc (N #[u0,u1,u2,u3,u4,u5] t)) (A (z w)+1) u0 u1 u2 u3 u4 u5:=by
 have hz:(w.alloc (N #[g,h,i,b,f,j] t)).heap.size=A (z w)+1:=by simp
 refine⟨(jc w g h i b f j t).aa ((cM (A (z w)+1) _).alloc (by omega) _) (j4 _),?_⟩;have:=jc (w.alloc (N #[g,h,i,b,f,j] t)) u0 u1 u2 u3 u4 u5 t;rw[hz] at this;exact this
theorem Bf (b off m c:Nat)(g:Nat->au)(t:ByteArray)(w:E)(hmm:(m:Int)<=1048576)(h:RowDeed w b off m g):Calls Pg 93 #[ZG #[Y (T (Q b off Z)) m c],U t] w λe u=>e=ZF (J I (jb g t m))/\Below (A (z w)) w u:=by
 obtain⟨W,l⟩:∃W:E,w.alloc (N #[Y (T (Q b off Z)) m c] 25)=W:=⟨_,rfl⟩
 obtain⟨p,-,-⟩:=nb1 l;have f:=ae l;clear l;have s:=ae (h.aa p ly);have k0:W.cell? (Q (A (z w)) 0 Z)=T (Y (T (Q b off Z)) m c):=by rw[<-f.out];simp
 clear h;go_enter func93,ntmps93;go_wp2;rw[f.out];clear f;go_loop [5] (λi=>∃k:Nat,k<=m/\i=J I k/\Hid (∀j,j<k->(!((g j).e.toList == t.toList))=ZD)) (λi=>m - (intOf i).toNat);case atStart=>exact⟨0,by omega,rfl,λj r=>absurd r (KO _)⟩
 case round =>
  obtain⟨k,hk,rfl,o⟩:=hrel;by_cases n:k<m
  ·obtain⟨c0,_⟩:=s.2 k n;cases hb:((g k).e.toList == t.toList) with
   |true =>have q:=ae hb;go_wp2;go_ret;refine⟨?_,p⟩;rw[jb,fB n (by rw[q.out];rfl) o.out];rfl
   |false =>
    have q:=ae hb;go_wp2;refine⟨⟨k+1,by omega,by go_num,λj r=>?_⟩,by simp[intOf];omega⟩;by_cases e:j=k;{subst e;rw[q.out];rfl};{exact o j (by omega)}
  ·have e:k=m:=by omega
   subst e;go_wp2;go_ret;refine⟨?_,p⟩;rw[jb,dX o.out];rfl
theorem Bg (a:Option Addr)(c:Nat)(g:Nat->au)(t:ByteArray)(w:E):Calls Pg 93 #[ZG #[Y a 0 c],U t] w λe h=>e=ZF (J I (jb g t 0))/\Below (A (z w)) w h:=by
 have b:=ae ((BS w).alloc ly (N #[Y a 0 c] 25));have f:(w.alloc (N #[Y a 0 c] 25)).cell? (Q (A (z w)) 0 Z)=T (Y a 0 c):=by simp
 go_enter func93,ntmps93;go_wp2;generalize World.alloc w _=W at b f ⊢;go_loop [5] (λi=>i=J I 0) (λ_=>0);case atStart=>rfl
 case round =>subst hrel;go_wp2;go_ret;exact⟨rfl,b⟩
theorem Bh (a:Option Addr)(m c:Nat)(g:Nat->au)(t:ByteArray)(w:E)(f:(m:Int)<=1048576)(i:SlDeed w a m g):Calls Pg 93 #[ZG #[Y a m c],U t] w λe j=>e=ZF (J I (jb g t m))/\Below (A (z w)) w j:=by
 by_cases hz:m=0;{subst hz;exact Bg a c g t w};{obtain⟨b,off,rfl,h⟩:=i.resolve_left hz;exact Bf b off m c g t w f h}
