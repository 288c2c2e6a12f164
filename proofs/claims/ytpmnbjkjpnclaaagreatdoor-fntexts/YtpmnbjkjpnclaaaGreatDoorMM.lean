import Derived.Test.YtpmnbjkjpnclaaaGreatDoorME
import Derived.OneCell
import Derived.OwnWalk
import Derived.Maps.AppendAt
import Derived.Deep.RegionLaw
set_option maxRecDepth 100000
set_option maxHeartbeats 4000000
set_option linter.unusedSimpArgs false
open Go renaming Addr.mk->N,Value.slice->Y,Value.string->U,Value.int->Q,Value.bool->ZC,Value.agg->ZG,Obj.cells->J,IntKind.i64->I,World->M,Value->ZB,TypeId->ZH,Ending.returned->ZD,World.heap->z,World.frozen?->B,Proofs.Tryz.prog->Pg
open Option renaming none->Z,some->T
open Bool renaming false->ZA,true->ZF
open Array renaming size->A
namespace Go.Proofs.YtpmnbjkjpnclaaaGreatDoor.Vp
open Tryz RowKit
variable {w:M}{n b ZT size:Nat}{i m g l j f:ZB}{e:ZH}{P:Program}{o:Oper}{a:Act}{ZN:Exit->Act->M->Prop}{ZR:Array Oper}{K:Act->M->Prop}{E:Prop}
def ce (g:Nat->ByteArray):Nat->Bool
 |0=>ZF
 |k+1=>ce g k && aA (g k)
theorem rq{g:Nat->ByteArray}{k:Nat}(h:k<=n)(hn:ce g n=ZF):ce g k=ZF:=by
 induction n with
 |zero =>
  obtain rfl:k=0:=by omega
  exact hn
 |succ m b =>
  by_cases e:k=m+1;{subst e;exact hn};{simp only[ce,p6] at hn;exact b (by omega) hn.1}
theorem gT{g:Nat->ByteArray}{k:Nat}(h:k<n)(b:aA (g k)=ZA):ce g n=ZA:=by
 cases e:ce g n with
 |false=>rfl
 |true =>have h2:=rq (show k+1<=n by omega) e;simp[ce,b] at h2
theorem vL (a0 a1:Option Addr)(n0 c0 n1 c1:Nat)(w:M)(h0:(n0:Int)<=1048576)(h1:(n1:Int)<=1048576):Calls Pg 157 #[ZG #[Y a0 n0 c0,Y a1 n1 c1]] w λe b=>e=ZD (Q I ((n0:Int)+n1))/\Below (A (z w)) w b:=by go_enter func157,ntmps157;go_wp2;go_ret;exact⟨rfl,br.alloc ly _⟩
theorem ru (b off n cap:Nat)(g:Nat->ByteArray)(w:M)(hn:(n:Int)<=1048576)(m:RowStr w b off n g):Calls Pg 160 #[Y (T (N b off Z)) n cap] w λe s=>e=ZD (ZC (ce g n))/\Below (A (z w)) w s:=by
 have r:=ae m;clear m;go_enter func160,ntmps160;go_wp2;go_loopw [7] (λi wr=>∃k:Nat,k<=n/\i=Q I k/\Hid (ce g k=ZF)/\Below (A (z w)) w wr) (λi _=>n - (intOf i).toNat);case atStart=>exact⟨0,by omega,rfl,rfl,cM _ _⟩
 case round =>
  obtain⟨k,hk,rfl,o,q⟩:=hrel;have f:=ae q;clear q;by_cases j:k<n
  ·have c0:=(r.aa f ly).2 k j;go_wp2_with fail;refine(eh _ _).mono ?_;rintro e w1 ⟨rfl,h⟩;have p:=ae (f.trans (h.mono f.size));clear h;cases hq:aA (g k) with
   |true =>have l:=ae hq;clear hq;go_wp2;exact⟨⟨k+1,by omega,by go_num,by show ce g (k+1)=ZF;simp[ce,o.out,l.out],p.out⟩,by simp[intOf];omega⟩
   |false =>have l:=ae hq;clear hq;go_wp2;go_ret;exact⟨bq (gT j l).symm,p⟩
  ·have e:k=n:=by omega
   subst e;go_wp2;go_ret;exact⟨bq o.symm,f⟩
theorem ry (a:Option Addr)(cap:Nat)(w:M):Calls Pg 160 #[Y a 0 cap] w λe b=>e=ZD (ZC ZF)/\b=w:=by
 go_enter func160,ntmps160;go_wp2;go_loop [7] (λi=>i=Q I 0) (λ_=>0);case atStart=>rfl
 case round =>subst hrel;go_wp2;go_ret;exact⟨rfl,rfl⟩
theorem kM (a:Option Addr)(n cap:Nat)(g:Nat->ByteArray)(w:M)(hn:(n:Int)<=1048576)(f:SlStr w a n g):Calls Pg 160 #[Y a n cap] w λe h=>e=ZD (ZC (ce g n))/\Below (A (z w)) w h:=by
 rcases f with rfl|⟨b,off,rfl,f⟩
 {exact(ry a cap w).mono λe h ⟨p,q⟩=>⟨p,by rw[q];exact cM _ _⟩};{exact ru b off n cap g w hn f}
def aP (g:Nat->ByteArray):Nat->Bool
 |0=>ZF
 |1=>ZF
 |k+2=>aP g (k+1) && Op.bytesLess (g k).toList (g (k+1)).toList
theorem fL{g:Nat->ByteArray}{k:Nat}(h:k<=n)(hn:aP g n=ZF):aP g k=ZF:=by
 induction n with
 |zero =>
  obtain rfl:k=0:=by omega
  exact hn
 |succ m b =>
  by_cases e:k=m+1;{subst e;exact hn}
  ·cases m with
   |zero =>
    obtain rfl:k=0:=by omega
    rfl
   |succ j =>simp only[aP,p6] at hn;exact b (by omega) hn.1
theorem jk{g:Nat->ByteArray}{k:Nat}(h:k+1<n)(b:Op.bytesLess (g k).toList (g (k+1)).toList=ZA):aP g n=ZA:=by
 cases e:aP g n with
 |false=>rfl
 |true =>have h2:=fL (show k+2<=n by omega) e;simp[aP,b] at h2
theorem qH (b off n cap:Nat)(g:Nat->ByteArray)(w:M)(hn:(n:Int)<=1048576)(m:RowStr w b off n g):Calls Pg 161 #[Y (T (N b off Z)) n cap] w λe r=>e=ZD (ZC (aP g n))/\Below (A (z w)) w r:=by
 have o:=ae m;clear m;go_enter func161,ntmps161;go_wp2;go_loopw [3] (λi wr=>∃k:Nat,(k+1<=n∨k=0)/\i=Q I ((k:Int)+1)/\Hid (aP g (k+1)=ZF)/\Below (A (z w)) w wr) (λi _=>n+1 - (intOf i).toNat);case atStart=>exact⟨0,.inr rfl,rfl,rfl,cM _ _⟩
 case round =>
  obtain⟨k,hk,rfl,p,q⟩:=hrel;have f:=ae q;clear q;by_cases h:k+1<n
  ·have c0:=(o.aa f ly).2 k (by omega);have c1:=(o.aa f ly).2 (k+1) h;have hlt':(k:Int)+1<n:=by omega
   go_wp2_with fail;go_quiet (fail);have l:=ae (E9 f nq);clear c0 c1;generalize wr.drewN nq=W at l ⊢;cases hq:Op.bytesLess (g k).toList (g (k+1)).toList with
   |true =>have j:=ae hq;clear hq;go_wp2;exact⟨⟨k+1,.inl (by omega),by go_num,by show aP g (k+2)=ZF;simp[aP,p.out,j.out],l.out⟩,by simp[intOf];omega⟩
   |false =>have j:=ae hq;clear hq;go_wp2;go_ret;exact⟨bq (jk h j).symm,l⟩
  ·have hge:¬ (k:Int)+1<n:=by omega
   go_wp2;go_ret;exact⟨bq (fL (show n<=k+1 by omega) p.out).symm,f.out⟩
theorem aW (O:o.guard=Z)(s x:Operand)(t:ZH)
  (ZK:o.op=.call { callee:=.builtin .append,args:=#[s,x],argTypes:=#[t,t] })
  (f:Nat) (e:ZH) (i:TypeInfo) (ZS:ZB) (size b:Nat) (ZM:P.underlying t=T (.slice e)) (hi:P.info? e=T i) (hz:i.zero=T ZS)
  (r:i.size=size) (ZO:i.bytes=b) (H:ZS.cells.size=size) (G:0<size)
  (v:ZB) (n:Nat) (D:List ZB) (ZL:a.eval s=v) (ZT:w.ownsRow f e size v n D)
  (C:Addr) (m c:Nat) (news:List ZB) (W:a.eval x=Y (T C) m c) (V:news.length=m*size) (y:∀j u,news[j]?=T u->w.cell? (C.add j)=T u) (h1:∀u∈news,u.oneCell'=ZF)
  (ZP:n+m<=maxLen) (l:(n+m)*b<=140737488355328) (q:f<=A (z w))
  (h:∀g p,p.ownsRow f e size g (n+m) (D++news)->w.grownBy p v.ownBlock->(g.ownBlock=v.ownBlock∨g.ownBlock=T (A (z w)))->K (a.put o.dst g) p) :
  if Region.wanted o (yielded ZR a.tmps)=ZF then Oper.wp P o a w K ZN else E:=by
 have ZQ:Region.wanted o (yielded ZR a.tmps)=ZF:=by simp[Region.wanted,O]
 rw[nL ZQ];obtain⟨g,p,L,h2,S,h4,R⟩:=run_append_own_at (P:=P) w f t o.type e i ZS size b ZM hi hz r ZO H G v n D ZT C m c news V y h1 ZP l q;unfold Oper.wp execOp;simp only[ZK,resolve,invoke,builtin,Sem.run_bind,Sem.run_pure,Result.andThen_ok,List.map_toArray,Q2,P9,ZL,W,L];exact h g p h2 S R
theorem bG (w:M){rest:List Oper}(ZQ:o.guard=Z)(s x:Operand)(t:ZH)
  (S:o.op=.call { callee:=.builtin .append,args:=#[s,x],argTypes:=#[t,t] })
  (f:Nat) (e:ZH) (i:TypeInfo) (ZS:ZB) (size b:Nat) (L:P.underlying t=T (.slice e)) (hi:P.info? e=T i) (hz:i.zero=T ZS)
  (r:i.size=size) (ZO:i.bytes=b) (H:ZS.cells.size=size) (G:0<size)
  (v:ZB) (n:Nat) (D:List ZB) (R:a.eval s=v) (ZT:w.ownsRow f e size v n D)
  (C:Addr) (m c:Nat) (news:List ZB) (ZK:a.eval x=Y (T C) m c) (ZL:news.length=m*size) (y:∀j u,news[j]?=T u->w.cell? (C.add j)=T u) (h1:∀u∈news,u.oneCell'=ZF)
  (ZP:n+m<=maxLen) (l:(n+m)*b<=140737488355328) (q:f<=A (z w))
  (h:∀g p,p.ownsRow f e size g (n+m) (D++news)->w.grownBy p v.ownBlock->(g.ownBlock=v.ownBlock∨g.ownBlock=T (A (z w)))->wpList P ZR ZN rest (a.put o.dst g) p) :
  wpList P ZR ZN (o::rest) a w:=by
 refine wpList_plain ZQ λK' E=>?_;obtain⟨g,p,K,h2,O,h4,ZM⟩:=run_append_own_at (P:=P) w f t o.type e i ZS size b L hi hz r ZO H G v n D ZT C m c news ZL y h1 ZP l q;unfold Oper.wp execOp;simp only[S,resolve,invoke,builtin,Sem.run_bind,Sem.run_pure,Result.andThen_ok,List.map_toArray,Q2,P9,R,ZK,K];exact E _ _ (h g p h2 O ZM)
theorem cT (w:M)(x:ZB)(t:ZH):∀j u,[x][j]?=T u->(w.alloc (J #[x] t)).cell? (((N (A (z w)) 0 Z):Addr).add j)=T u:=by
 intro j u b;match j,b with
 |0,b=>simp at b;subst b;simp[Addr.add]
theorem cD{r:Array Oper}(ZM:o.guard=Z)(s x:Operand)(t:ZH)
  (R:o.op=.call { callee:=.builtin .append,args:=#[s,x],argTypes:=#[t,t] })
  (f:Nat) (e:ZH) (i:TypeInfo) (ZS:ZB) (size b:Nat) (ZQ:P.underlying t=T (.slice e)) (hi:P.info? e=T i) (hz:i.zero=T ZS)
  (p:i.size=size) (ZO:i.bytes=b) (H:ZS.cells.size=size) (G:0<size)
  (v:ZB) (n:Nat) (D:List ZB) (O:a.eval s=v) (y:w.ownsRow f e size v n D)
  (ZT:Addr) (m c:Nat) (news:List ZB) (ZL:a.eval x=Y (T ZT) m c) (S:news.length=m*size) (q:∀j u,news[j]?=T u->w.cell? (ZT.add j)=T u) (h1:∀u∈news,u.oneCell'=ZF)
  (ZP:n+m<=maxLen) (g:(n+m)*b<=140737488355328) (l:f<=A (z w))
  (h:∀ZR C,C.ownsRow f e size ZR (n+m) (D++news)->w.grownBy C v.ownBlock->(ZR=Y Z 0 0 ↔ v=Y Z 0 0/\m=0)->K (a.put o.dst ZR) C) :
  if Region.wanted o (yielded r a.tmps)=ZF then Oper.wp P o a w K ZN else E:=by
 have L:Region.wanted o (yielded r a.tmps)=ZF:=by simp[Region.wanted,ZM]
 rw[nL L];exact wp_append_own w s x t R f e i ZS size b ZQ hi hz p ZO H G v n D O y ZT m c news ZL S q h1 ZP g l h
theorem own_below{g:M}{v:ZB}{f:List ZB}(h:w.ownsRow b e size v n f)(hb:Below ZT w g)(j:A (z w)<=ZT):g.ownsRow b e size v n f :=
 h.kept (row:=Z) ⟨hb.os,hb.tape,hb.output,hb.size,λk i _=>hb.block k (lj i j)⟩ (by cases v.ownBlock<;>simp)
theorem aC{base':Nat}{v:ZB}{i:List ZB}(h:w.ownsRow b e size v n i)(hb:base'<=b):w.ownsRow base' e size v n i:=by
 refine⟨h.1,?_⟩;rcases h.2 with h|⟨g,cap,f,j,l,r⟩
 {exact .inl h};{exact .inr ⟨g,cap,f,j,nD hb l,r⟩}
theorem jl (W:M)(b:Array ZB)(ty:ZH)(g j:Nat)(v:ZB)(h:g=A (z W))(f:b[j]?=T v):(W.alloc (J b ty)).cell? (N g j Z)=T v:=by subst h;simp[f]
theorem fY{v:ZB}{i:List ZB}(h:w.ownsRow b e 1 v n i)(hn:0<n):∃g cap,v=Y (T (N g 0 Z)) n cap:=by
 rcases h.2 with ⟨_,h0⟩|⟨g,cap,cur,f,_⟩
 {omega};{exact⟨g,cap,f⟩}
def jM (g:Nat->ByteArray)(n:Nat):List ZB:=(List.range n).map λi=>U (g i)
theorem pL (g:Nat->ByteArray)(n:Nat):jM g (n+1)=jM g n++[U (g n)]:=by simp[jM,KV]
theorem xM{f:Nat}{v:ZB}{g:Nat->ByteArray}(h:w.ownsRow f e 1 v n (jM g n)):∃a cap,v=Y a n cap/\SlStr w a n g:=by
 rcases h.2 with ⟨rfl,rfl⟩|⟨b,cap,cur,rfl,hb,j,_⟩
 {exact⟨Z,0,rfl,.inl rfl⟩}
 ·refine⟨_,cap,rfl,.inr ⟨b,0,rfl,lt_of_block j,λi hi=>?_⟩⟩;have:=h.cells (g:=b) rfl i (U (g i)) (by simp[jM,hi]);rw[JC];have l:((N b 0 Z):Addr).add i=(N b i Z):=by unfold Addr.add;split<;>simp_all
  rwa[l] at this
theorem nO (b off n c0:Nat)(D:ZB)(a1:Option Addr)(n1 c1:Nat)(x:D=Y a1 n1 c1)(f:Nat->Source)(w:M)(hn:(n:Int)<=1048576)(s:RowSource w b off n f):Calls Pg 158 #[ZG #[Y (T (N b off Z)) n c0,D]] w λe E=>∃a cap,e=ZD (Y a n cap)/\SlStr E a n (λi=>(f i).e)/\Below (A (z w)) w E:=by
 subst x;have t:=ae s;clear s;obtain⟨y,hi,ZR,ZT,ZS⟩:=JT fK;have G:=ae ((BS w).alloc ly (J #[Y (T (N b off Z)) n c0,Y a1 n1 c1] 27));go_enter func158,ntmps158;go_wp2;go_loopw [3,9] (λv i wr=>∃k:Nat,k<=n/\i=Q I k/\Hid (wr.ownsRow (A (z w)) 9 1 v k (jM (λi=>(f i).e) k))/\Below (A (z w)) w wr) (λ_ i _=>n - (intOf i).toNat);case atStart=>exact⟨0,by omega,rfl,ES _ _ _ _,G⟩
 case round =>
  obtain⟨k,hk,rfl,o,p⟩:=hrel;have m:=ae p;have u:A (z w)<=A (z wr):=p.size;clear p;by_cases C:k<n;{obtain⟨d0,d1⟩:=(t.2 k C).aa m t.1;go_wp2_with (at_builtin;refine IS _ rfl (.tmp 13) (.tmp 16) 30 rfl (A (z w)) 9 y (U ⟨#[]⟩) 1 16 JD hi ZR ZT ZS rfl (by decide) _ k (jM (λi=>(f i).e) k) (by simp[Act.eval]) ((o.alloc _).alloc _) (N (A (z wr)+1) 0 Z) 1 1 [U (f k).e] (by simp[Act.eval]) rfl (by rw[show (A (z wr))+1=(wr.alloc (J #[U (f k).e,U (f k).y] 142)).heap.size by simp];exact cT _ _ _) (by simp[Value.oneCell']) (by unfold maxLen;omega) (by omega) (by simp;omega) ?_;intro v' w2 h g q;have H:=ae h;have ZP:=ae (bg ((m.alloc u (J #[U (f k).e,U (f k).y] 142)).alloc (by simp;omega) (J #[U (f k).e] 9)) g (by simp;omega) (λj e=>(o.lt j e).1));clear h g q);exact⟨⟨k+1,by omega,by go_num,by show World.ownsRow _ _ _ _ _ _ _;rw[pL];exact H,ZP⟩,by simp[intOf];omega⟩}
  ·have e:k=n:=by omega
   subst e;obtain⟨a,cap,rfl,l⟩:=xM o;have r:=ae l;clear l;go_wp2;go_ret;exact⟨a,cap,rfl,r,m⟩
theorem nP (a0:Option Addr)(c0:Nat)(a1:Option Addr)(n1 c1:Nat)(g:Nat->ByteArray)(w:M):Calls Pg 158 #[ZG #[Y a0 0 c0,Y a1 n1 c1]] w λe f=>∃a cap,e=ZD (Y a 0 cap)/\SlStr f a 0 g/\Below (A (z w)) w f:=by
 have h:=ae ((BS w).alloc ly (J #[Y a0 0 c0,Y a1 n1 c1] 27));go_enter func158,ntmps158;go_wp2;go_loopw [3,9] (λv i wr=>v=Y Z 0 0/\i=Q I 0/\Below (A (z w)) w wr) (λ_ _ _=>0);case atStart=>exact⟨rfl,rfl,h⟩
 case round =>obtain⟨rfl,rfl,b⟩:=hrel;have j:=ae b;clear b;go_wp2;go_ret;exact⟨Z,0,rfl,.inl rfl,j⟩
theorem nQ (a0:Option Addr)(n c0:Nat)(a1:Option Addr)(n1 c1:Nat)(f:Nat->Source)(w:M)(hn:(n:Int)<=1048576)(g:SlSource w a0 n f):Calls Pg 158 #[ZG #[Y a0 n c0,Y a1 n1 c1]] w λe h=>∃a cap,e=ZD (Y a n cap)/\SlStr h a n (λi=>(f i).e)/\Below (A (z w)) w h:=by
 rcases g with rfl|⟨b,off,rfl,g⟩
 {exact nP a0 c0 a1 n1 c1 _ w};{exact nO b off n c0 _ a1 n1 c1 rfl f w hn g}
theorem nR (b off n c0:Nat)(G:ZB)(a1:Option Addr)(n1 c1:Nat)(x:G=Y a1 n1 c1)(f:Nat->Target)(w:M)(hn:(n:Int)<=1048576)(s:RowTarget w b off n f):Calls Pg 159 #[ZG #[G,Y (T (N b off Z)) n c0]] w λe H=>∃a cap,e=ZD (Y a n cap)/\SlStr H a n (λi=>(f i).e)/\Below (A (z w)) w H:=by
 subst x;have t:=ae s;clear s;obtain⟨ZR,hi,C,D,ZT⟩:=JT fK;have ZP:=ae ((BS w).alloc ly (J #[Y a1 n1 c1,Y (T (N b off Z)) n c0] 27));go_enter func159,ntmps159;go_wp2;go_loopw [3,9] (λv i wr=>∃k:Nat,k<=n/\i=Q I k/\Hid (wr.ownsRow (A (z w)) 9 1 v k (jM (λi=>(f i).e) k))/\Below (A (z w)) w wr) (λ_ i _=>n - (intOf i).toNat);case atStart=>exact⟨0,by omega,rfl,ES _ _ _ _,ZP⟩
 case round =>
  obtain⟨k,hk,rfl,o,p⟩:=hrel;have m:=ae p;have u:A (z w)<=A (z wr):=p.size;clear p;by_cases E:k<n;{obtain⟨d0,y,ZS,d1,_⟩:=(t.2 k E).aa m ly t.1;go_wp2_with (at_builtin;refine IS _ rfl (.tmp 13) (.tmp 16) 30 rfl (A (z w)) 9 ZR (U ⟨#[]⟩) 1 16 JD hi C D ZT rfl (by decide) _ k (jM (λi=>(f i).e) k) (by simp[Act.eval]) ((o.alloc _).alloc _) (N (A (z wr)+1) 0 Z) 1 1 [U (f k).e] (by simp[Act.eval]) rfl (by rw[show (A (z wr))+1=(wr.alloc (J #[U (f k).e,Y y (f k).m ZS] 146)).heap.size by simp];exact cT _ _ _) (by simp[Value.oneCell']) (by unfold maxLen;omega) (by omega) (by simp;omega) ?_;intro v' w2 h g q;have ZO:=ae h;have K:=ae (bg ((m.alloc u (J #[U (f k).e,Y y (f k).m ZS] 146)).alloc (by simp;omega) (J #[U (f k).e] 9)) g (by simp;omega) (λj e=>(o.lt j e).1));clear h g q);exact⟨⟨k+1,by omega,by go_num,by show World.ownsRow _ _ _ _ _ _ _;rw[pL];exact ZO,K⟩,by simp[intOf];omega⟩}
  ·have e:k=n:=by omega
   subst e;obtain⟨a,cap,rfl,l⟩:=xM o;have r:=ae l;clear l;go_wp2;go_ret;exact⟨a,cap,rfl,r,m⟩
theorem nS (a0:Option Addr)(c0:Nat)(a1:Option Addr)(n1 c1:Nat)(g:Nat->ByteArray)(w:M):Calls Pg 159 #[ZG #[Y a1 n1 c1,Y a0 0 c0]] w λe f=>∃a cap,e=ZD (Y a 0 cap)/\SlStr f a 0 g/\Below (A (z w)) w f:=by
 have h:=ae ((BS w).alloc ly (J #[Y a1 n1 c1,Y a0 0 c0] 27));go_enter func159,ntmps159;go_wp2;go_loopw [3,9] (λv i wr=>v=Y Z 0 0/\i=Q I 0/\Below (A (z w)) w wr) (λ_ _ _=>0);case atStart=>exact⟨rfl,rfl,h⟩
 case round =>obtain⟨rfl,rfl,b⟩:=hrel;have j:=ae b;clear b;go_wp2;go_ret;exact⟨Z,0,rfl,.inl rfl,j⟩
theorem nT (a0:Option Addr)(n c0:Nat)(a1:Option Addr)(n1 c1:Nat)(f:Nat->Target)(w:M)(hn:(n:Int)<=1048576)(g:SlTarget w a0 n f):Calls Pg 159 #[ZG #[Y a1 n1 c1,Y a0 n c0]] w λe h=>∃a cap,e=ZD (Y a n cap)/\SlStr h a n (λi=>(f i).e)/\Below (A (z w)) w h:=by
 rcases g with rfl|⟨b,off,rfl,g⟩
 {exact nS a0 c0 a1 n1 c1 _ w};{exact nR b off n c0 _ a1 n1 c1 rfl f w hn g}
theorem lP (w:M)(e:ZH)(size:Nat):(w.alloc (J #[] e)).ownsRow (A (z w)) e size (Y (T (N (A (z w)) 0 Z)) 0 0) 0 [] :=
 ⟨by simp,.inr ⟨A (z w),0,#[],rfl,nX _,gM w _,nX _,by unfold maxLen;omega,by simp,by simp⟩⟩
def bK (f:Nat->aj)(n:Nat):Bool:=decide ((dH f n).1=0)
theorem fx{f:Nat->aj}(h:bK f n=ZF):1<=n/\n<=400/\aK (bc f) n=-1:=by
 have h1:(dH f n).1=0:=KP h;unfold dH at h1;split at h1;{simp at h1};{rename_i h2;refine⟨by omega,by omega,?_⟩;split at h1;{simp at h1};{rename_i b;exact MU λg=>b g}}
theorem tS{f:Nat->aj}(h:bK f n=ZF):∀p,p<n->(f p).l<=200:=by
 intro p b;have h1:=dL (fx h).2.2 p b;simp only[bc,p6,kindOk] at h1;obtain⟨_,h2⟩:=h1;split at h2;{simp[aN] at h2;omega};{split at h2;{simp[aN] at h2;omega};{split at h2;{simp[bV] at h2;omega};{simp at h2}}}
theorem iV{f:Nat->aj}(h:bK f n=ZF):∀p,p<n->∀j,j<(f p).l->((f p).u j).ask=ZF->0<=((f p).u j).G/\((f p).u j).G.toNat<p/\(f ((f p).u j).G.toNat).e.toList=((f p).u j).e.toList:=by
 intro p o j g i;have h1:=dL (fx h).2.2 p o;simp only[bc,p6,kindOk] at h1;obtain⟨_,h2⟩:=h1;have l:bP f p (f p) (f p).l=ZF:=by
  split at h2;{simp[aN] at h2;omega};{split at h2;{simp[aN] at h2;omega};{split at h2;{simp only[bV,p6] at h2;exact h2.2};{simp at h2}}}
 have b:=jI l j g;simp only[dU,i,if_true,p6,xT,PJ] at b;obtain⟨_,⟨⟨_,q⟩,h5⟩,m⟩:=b;exact⟨q,by omega,m⟩
theorem nU{f:Nat->aj}{p:Nat}(h:aU f p n=ZF):∀i,i<n->(f i).e.toList≠(f p).e.toList:=by
 induction n with
 |zero=>intro i hi;omega
 |succ n b =>
  simp only[aU,p6,Bool.not_eq_true',beq_eq_false_iff_ne] at h;intro i hi;by_cases e:i=n;{subst e;exact h.2};{exact b h.1 i (by omega)}
theorem pM{f:Nat->aj}(h:bK f n=ZF):∀i j,i<n->j<n->(f i).e.toList=(f j).e.toList->i=j:=by
 have h1:(dH f n).1=0:=KP h;have h2:aK (λp=>aU f p p) n=-1:=by
  unfold dH at h1;split at h1;{simp at h1};{split at h1;{simp at h1};{split at h1;{simp at h1};{rename_i g;exact MU λm=>g m}}}
 have g:=dL h2;intro i j hi l e;rcases QA i j with b|rfl|b;{exact absurd e (nU (g j l) i b)};{rfl};{exact absurd e.symm (nU (g i hi) j b)}
def dV:aj:={ e:=⟨#[]⟩,H:=0,E:=0,y:=⟨#[]⟩,m:=0,D:=λ_=>⟨0,⟨#[]⟩,0⟩,l:=0,u:=λ_=>⟨⟨#[]⟩,ZA,ZA,0⟩ }
def dF (L:List aj)(i:Nat):aj:=L.getD i dV
def iJ (f:Nat->aj)(t:ByteArray)(n:Nat):Int:=aK (λi=>!((f i).e.toList == t.toList)) n
structure DBox (w:M)(b:Nat)(v0 v1 v2 v3 v4 v5:ZB):Prop where
 lt:b<A (z w)
 c0:w.cell? (N b 0 Z)=T v0/\B w (N b 0 Z)=ZA
 c1:w.cell? (N b 1 Z)=T v1/\B w (N b 1 Z)=ZA
 c2:w.cell? (N b 2 Z)=T v2/\B w (N b 2 Z)=ZA
 c3:w.cell? (N b 3 Z)=T v3/\B w (N b 3 Z)=ZA
 c4:w.cell? (N b 4 Z)=T v4/\B w (N b 4 Z)=ZA
 c5:w.cell? (N b 5 Z)=T v5/\B w (N b 5 Z)=ZA
theorem DBox.ad{w':M}{n:ZB}(h:DBox w b j i m g l n)(hz:A (z w)<=A (z w'))(e:w'.heap[b]?=w.heap[b]?):DBox w' b j i m g l n :=
 have c:∀o,w'.cell? (N b o Z)=w.cell? (N b o Z):=λo=>cq (a:=(N b o Z)) e;have f:∀o,B w' (N b o Z)=B w (N b o Z):=λo=>JK (a:=(N b o Z)) e
 ⟨lj h.lt hz,⟨(c 0).trans h.c0.1,(f 0).trans h.c0.2⟩,⟨(c 1).trans h.c1.1,(f 1).trans h.c1.2⟩,⟨(c 2).trans h.c2.1,(f 2).trans h.c2.2⟩,⟨(c 3).trans h.c3.1,(f 3).trans h.c3.2⟩,⟨(c 4).trans h.c4.1,(f 4).trans h.c4.2⟩,⟨(c 5).trans h.c5.1,(f 5).trans h.c5.2⟩⟩
theorem DBox.aa{j:M}{n:ZB}(h:DBox w b i g m f l n)(hb:Below ZT w j)(o:b<ZT):DBox j b i g m f l n:=h.ad hb.size (hb.block b o)
theorem DBox.far (h:DBox w b i g l f j m){p:Addr}(n:p.block≠b)(v:ZB):DBox (w.setCell p v) b i g l f j m:=h.ad (by simp) (qh _ _ _ _ (λe=>n e.symm))
theorem DBox.set1 (h:DBox w b g m j f i l)(v:ZB):DBox (w.setCell (N b 1 Z) v) b g v j f i l :=
 ⟨by simpa using h.lt,⟨(sq _ _ _ _ (by simp)).trans h.c0.1,by simpa using h.c0.2⟩,⟨DN _ _ _ (by rw[h.c1.1];rfl),by simpa using h.c1.2⟩,⟨(sq _ _ _ _ (by simp)).trans h.c2.1,by simpa using h.c2.2⟩,⟨(sq _ _ _ _ (by simp)).trans h.c3.1,by simpa using h.c3.2⟩,⟨(sq _ _ _ _ (by simp)).trans h.c4.1,by simpa using h.c4.2⟩,⟨(sq _ _ _ _ (by simp)).trans h.c5.1,by simpa using h.c5.2⟩⟩
theorem DBox.set2 (h:DBox w b i g m f j l)(v:ZB):DBox (w.setCell (N b 2 Z) v) b i g v f j l :=
 ⟨by simpa using h.lt,⟨(sq _ _ _ _ (by simp)).trans h.c0.1,by simpa using h.c0.2⟩,⟨(sq _ _ _ _ (by simp)).trans h.c1.1,by simpa using h.c1.2⟩,⟨DN _ _ _ (by rw[h.c2.1];rfl),by simpa using h.c2.2⟩,⟨(sq _ _ _ _ (by simp)).trans h.c3.1,by simpa using h.c3.2⟩,⟨(sq _ _ _ _ (by simp)).trans h.c4.1,by simpa using h.c4.2⟩,⟨(sq _ _ _ _ (by simp)).trans h.c5.1,by simpa using h.c5.2⟩⟩
theorem DBox.set3 (h:DBox w b g f j m i l)(v:ZB):DBox (w.setCell (N b 3 Z) v) b g f j v i l :=
 ⟨by simpa using h.lt,⟨(sq _ _ _ _ (by simp)).trans h.c0.1,by simpa using h.c0.2⟩,⟨(sq _ _ _ _ (by simp)).trans h.c1.1,by simpa using h.c1.2⟩,⟨(sq _ _ _ _ (by simp)).trans h.c2.1,by simpa using h.c2.2⟩,⟨DN _ _ _ (by rw[h.c3.1];rfl),by simpa using h.c3.2⟩,⟨(sq _ _ _ _ (by simp)).trans h.c4.1,by simpa using h.c4.2⟩,⟨(sq _ _ _ _ (by simp)).trans h.c5.1,by simpa using h.c5.2⟩⟩
theorem DBox.set4 (h:DBox w b i g j f m l)(v:ZB):DBox (w.setCell (N b 4 Z) v) b i g j f v l :=
 ⟨by simpa using h.lt,⟨(sq _ _ _ _ (by simp)).trans h.c0.1,by simpa using h.c0.2⟩,⟨(sq _ _ _ _ (by simp)).trans h.c1.1,by simpa using h.c1.2⟩,⟨(sq _ _ _ _ (by simp)).trans h.c2.1,by simpa using h.c2.2⟩,⟨(sq _ _ _ _ (by simp)).trans h.c3.1,by simpa using h.c3.2⟩,⟨DN _ _ _ (by rw[h.c4.1];rfl),by simpa using h.c4.2⟩,⟨(sq _ _ _ _ (by simp)).trans h.c5.1,by simpa using h.c5.2⟩⟩
theorem DBox.set5 (h:DBox w b i g l f j m)(v:ZB):DBox (w.setCell (N b 5 Z) v) b i g l f j v :=
 ⟨by simpa using h.lt,⟨(sq _ _ _ _ (by simp)).trans h.c0.1,by simpa using h.c0.2⟩,⟨(sq _ _ _ _ (by simp)).trans h.c1.1,by simpa using h.c1.2⟩,⟨(sq _ _ _ _ (by simp)).trans h.c2.1,by simpa using h.c2.2⟩,⟨(sq _ _ _ _ (by simp)).trans h.c3.1,by simpa using h.c3.2⟩,⟨(sq _ _ _ _ (by simp)).trans h.c4.1,by simpa using h.c4.2⟩,⟨DN _ _ _ (by rw[h.c5.1];rfl),by simpa using h.c5.2⟩⟩
theorem mH (w:M)(f h i b g j:ZB)(t:ZH):DBox (w.alloc (J #[f,h,i,b,g,j] t)) (A (z w)) f h i b g j:=by refine⟨by simp,?_,?_,?_,?_,?_,?_⟩<;>simp
theorem zu (b off m c:Nat)(g:Nat->aj)(t:ByteArray)(w:M)(hmm:(m:Int)<=1048576)(l:RowDeed w b off m g):Calls Pg 62 #[ZG #[Y (T (N b off Z)) m c],U t] w λe u=>e=ZD (Q I (iJ g t m))/\Below (A (z w)) w u:=by
 obtain⟨W,f⟩:∃W:M,w.alloc (J #[Y (T (N b off Z)) m c] 37)=W:=⟨_,rfl⟩
 obtain⟨o,-,-⟩:=nb1 f;have h:=ae f;clear f;have s:=ae (l.aa o ly);have k0:W.cell? (N (A (z w)) 0 Z)=T (Y (T (N b off Z)) m c):=by rw[<-h.out];simp
 clear l;go_enter func62,ntmps62;go_wp2;rw[h.out];clear h;go_loop [5] (λi=>∃k:Nat,k<=m/\i=Q I k/\Hid (∀j,j<k->(!((g j).e.toList == t.toList))=ZF)) (λi=>m - (intOf i).toNat);case atStart=>exact⟨0,by omega,rfl,λj r=>absurd r (JI _)⟩
 case round =>
  obtain⟨k,hk,rfl,p⟩:=hrel;by_cases n:k<m
  ·obtain⟨c0,_⟩:=s.2 k n;cases hb:((g k).e.toList == t.toList) with
   |true =>have q:=ae hb;go_wp2;go_ret;refine⟨?_,o⟩;rw[iJ,eW n (by rw[q.out];rfl) p.out];rfl
   |false =>
    have q:=ae hb;go_wp2;refine⟨⟨k+1,by omega,by go_num,λj r=>?_⟩,by simp[intOf];omega⟩;by_cases e:j=k;{subst e;rw[q.out];rfl};{exact p j (by omega)}
  ·have e:k=m:=by omega
   subst e;go_wp2;go_ret;refine⟨?_,o⟩;rw[iJ,eF p.out];rfl
theorem zv (a:Option Addr)(c:Nat)(g:Nat->aj)(t:ByteArray)(w:M):Calls Pg 62 #[ZG #[Y a 0 c],U t] w λe h=>e=ZD (Q I (iJ g t 0))/\Below (A (z w)) w h:=by
 have b:=ae ((BS w).alloc ly (J #[Y a 0 c] 37));have f:(w.alloc (J #[Y a 0 c] 37)).cell? (N (A (z w)) 0 Z)=T (Y a 0 c):=by simp
 go_enter func62,ntmps62;go_wp2;generalize World.alloc w _=W at b f ⊢;go_loop [5] (λi=>i=Q I 0) (λ_=>0);case atStart=>rfl
 case round =>subst hrel;go_wp2;go_ret;exact⟨rfl,b⟩
theorem zx (a:Option Addr)(m c:Nat)(g:Nat->aj)(t:ByteArray)(w:M)(f:(m:Int)<=1048576)(i:SlDeed w a m g):Calls Pg 62 #[ZG #[Y a m c],U t] w λe j=>e=ZD (Q I (iJ g t m))/\Below (A (z w)) w j:=by
 by_cases hz:m=0;{subst hz;exact zv a c g t w};{obtain⟨b,off,rfl,h⟩:=i.resolve_left hz;exact zu b off m c g t w f h}
