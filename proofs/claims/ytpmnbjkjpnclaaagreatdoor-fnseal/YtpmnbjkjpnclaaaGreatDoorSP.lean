import Derived.Sort.Walk0
import Derived.Test.YtpmnbjkjpnclaaaGreatDoorSD
import Derived.OneCell
import Derived.OwnWalk
import Derived.Maps.AppendAt
import Derived.Deep.RegionLaw
set_option maxRecDepth 100000
set_option maxHeartbeats 16000000
set_option linter.unusedSimpArgs false
open Go renaming Addr.mk->Q,Value.slice->Z,Value.string->U,Value.int->N,Value.agg->ZH,Obj.cells->J,IntKind.i64->I,World->M,Value->ZC,TypeId->ZI,Ending.returned->ZF,World.cell?->A,Proofs.Tryz.prog->Pg
open Option renaming none->Y,some->T
open Bool renaming false->ZA,true->ZG
namespace Go.Proofs.YtpmnbjkjpnclaaaGreatDoor.Vp
open Tryz
variable {w:M}{n b B size:Nat}{i g l j f c m:ZC}{P:Program}{o:Oper}{a:Act}{ZN:Exit->Act->M->Prop}{e:ZI}{ZS:Array Oper}{K:Act->M->Prop}{E:Prop}
theorem aG (ZO:o.guard=Y)(s x:Operand)(t:ZI)
  (ZL:o.op=.call { callee:=.builtin .append,args:=#[s,x],argTypes:=#[t,t] })
  (b:Nat) (e:ZI) (i:TypeInfo) (z:ZC) (size f:Nat) (L:P.underlying t=T (.slice e)) (hi:P.info? e=T i) (hz:i.zero=T z)
  (q:i.size=size) (F:i.bytes=f) (ZQ:z.cells.size=size) (H:0<size)
  (v:ZC) (n:Nat) (C:List ZC) (R:a.eval s=v) (D:w.ownsRow b e size v n C)
  (B:Addr) (m c:Nat) (news:List ZC) (S:a.eval x=Z (T B) m c) (ZM:news.length=m*size) (y:∀j u,news[j]?=T u->w.cell? (B.add j)=T u) (h1:∀u∈news,u.oneCell'=ZG)
  (G:n+m<=maxLen) (l:(n+m)*f<=140737488355328) (r:b<=w.heap.size)
  (h:∀g p,p.ownsRow b e size g (n+m) (C++news)->w.grownBy p v.ownBlock->(g.ownBlock=v.ownBlock∨g.ownBlock=T w.heap.size)->K (a.put o.dst g) p) :
  if Region.wanted o (yielded ZS a.tmps)=ZG then Oper.wp P o a w K ZN else E:=by
 have ZP:Region.wanted o (yielded ZS a.tmps)=ZG:=by simp[Region.wanted,ZO]
 rw[p6 ZP];obtain⟨g,p,O,h2,h3,h4,ZR⟩:=run_append_own_at (P:=P) w b t o.type e i z size f L hi hz q F ZQ H v n C D B m c news ZM y h1 G l r;unfold Oper.wp execOp;simp only[ZL,resolve,invoke,builtin,WO,WP,TC,UH,PU,PX,R,S,O];exact h g p h2 h3 ZR
theorem bD (w:M){rest:List Oper}(L:o.guard=Y)(s x:Operand)(t:ZI)
  (S:o.op=.call { callee:=.builtin .append,args:=#[s,x],argTypes:=#[t,t] })
  (b:Nat) (e:ZI) (i:TypeInfo) (z:ZC) (size f:Nat) (ZP:P.underlying t=T (.slice e)) (hi:P.info? e=T i) (hz:i.zero=T z)
  (q:i.size=size) (F:i.bytes=f) (ZQ:z.cells.size=size) (H:0<size)
  (v:ZC) (n:Nat) (C:List ZC) (ZO:a.eval s=v) (D:w.ownsRow b e size v n C)
  (B:Addr) (m c:Nat) (news:List ZC) (O:a.eval x=Z (T B) m c) (R:news.length=m*size) (y:∀j u,news[j]?=T u->w.cell? (B.add j)=T u) (h1:∀u∈news,u.oneCell'=ZG)
  (G:n+m<=maxLen) (l:(n+m)*f<=140737488355328) (r:b<=w.heap.size)
  (h:∀g p,p.ownsRow b e size g (n+m) (C++news)->w.grownBy p v.ownBlock->(g.ownBlock=v.ownBlock∨g.ownBlock=T w.heap.size)->wpList P ZS ZN rest (a.put o.dst g) p) :
  wpList P ZS ZN (o::rest) a w:=by
 refine wpList_plain L λK' E=>?_;obtain⟨g,p,ZR,h2,h3,h4,K⟩:=run_append_own_at (P:=P) w b t o.type e i z size f ZP hi hz q F ZQ H v n C D B m c news R y h1 G l r;unfold Oper.wp execOp;simp only[S,resolve,invoke,builtin,WO,WP,TC,UH,PU,PX,ZO,O,ZR];exact E _ _ (h g p h2 h3 K)
open RowKit
def dO (g:Nat->ByteArray):Nat->Bool
 |0=>ZG
 |k+1=>dO g k && aw (g k)
theorem uh{g:Nat->ByteArray}{k:Nat}(h:k<=n)(hn:dO g n=ZG):dO g k=ZG:=by
 induction n with
 |zero =>
  obtain rfl:k=0:=by omega
  exact hn
 |succ m b =>
  by_cases e:k=m+1;{subst e;exact hn};{simp only[dO,zA] at hn;exact b (by omega) hn.1}
theorem mL{g:Nat->ByteArray}{k:Nat}(h:k<n)(b:aw (g k)=ZA):dO g n=ZA:=by
 cases e:dO g n with
 |false=>rfl
 |true =>have h2:=uh (show k+1<=n by omega) e;simp[dO,b] at h2
def dT (g:Nat->ByteArray):Nat->Bool
 |0=>ZG
 |1=>ZG
 |k+2=>dT g (k+1) && Op.bytesLess (g k).toList (g (k+1)).toList
theorem lP{g:Nat->ByteArray}{k:Nat}(h:k<=n)(hn:dT g n=ZG):dT g k=ZG:=by
 induction n with
 |zero =>
  obtain rfl:k=0:=by omega
  exact hn
 |succ m b =>
  by_cases e:k=m+1;{subst e;exact hn}
  ·cases m with
   |zero =>
    obtain rfl:k=0:=by omega
    rfl
   |succ j =>simp only[dT,zA] at hn;exact b (by omega) hn.1
theorem ou{g:Nat->ByteArray}{k:Nat}(h:k+1<n)(b:Op.bytesLess (g k).toList (g (k+1)).toList=ZA):dT g n=ZA:=by
 cases e:dT g n with
 |false=>rfl
 |true =>have h2:=lP (show k+2<=n by omega) e;simp[dT,b] at h2
theorem cu (w:M)(x:ZC)(t:ZI):∀j u,[x][j]?=T u->(w.alloc (J #[x] t)).cell? (((Q w.heap.size 0 Y):Addr).add j)=T u:=by
 intro j u b;match j,b with
 |0,b=>simp at b;subst b;simp[Addr.add]
theorem eN{r:Array Oper}(ZR:o.guard=Y)(s x:Operand)(t:ZI)
  (S:o.op=.call { callee:=.builtin .append,args:=#[s,x],argTypes:=#[t,t] })
  (b:Nat) (e:ZI) (i:TypeInfo) (z:ZC) (size f:Nat) (L:P.underlying t=T (.slice e)) (hi:P.info? e=T i) (hz:i.zero=T z)
  (l:i.size=size) (F:i.bytes=f) (ZQ:z.cells.size=size) (H:0<size)
  (v:ZC) (n:Nat) (ZS:List ZC) (ZO:a.eval s=v) (C:w.ownsRow b e size v n ZS)
  (y:Addr) (m c:Nat) (news:List ZC) (O:a.eval x=Z (T y) m c) (R:news.length=m*size) (q:∀j u,news[j]?=T u->w.cell? (y.add j)=T u) (h1:∀u∈news,u.oneCell'=ZG)
  (G:n+m<=maxLen) (g:(n+m)*f<=140737488355328) (p:b<=w.heap.size)
  (h:∀D B,B.ownsRow b e size D (n+m) (ZS++news)->w.grownBy B v.ownBlock->(D=Z Y 0 0 ↔ v=Z Y 0 0/\m=0)->K (a.put o.dst D) B) :
  if Region.wanted o (yielded r a.tmps)=ZG then Oper.wp P o a w K ZN else E:=by
 have ZP:Region.wanted o (yielded r a.tmps)=ZG:=by simp[Region.wanted,ZR]
 rw[p6 ZP];exact wp_append_own w s x t S b e i z size f L hi hz l F ZQ H v n ZS ZO C y m c news O R q h1 G g p h
theorem own_below{c:M}{v:ZC}{f:List ZC}(h:w.ownsRow b e size v n f)(hb:Below B w c)(i:w.heap.size<=B):c.ownsRow b e size v n f :=
 h.kept (row:=Y) ⟨hb.os,hb.tape,hb.output,hb.size,λk g _=>hb.block k (lj g i)⟩ (by cases v.ownBlock<;>simp)
theorem aB{base':Nat}{v:ZC}{c:List ZC}(h:w.ownsRow b e size v n c)(hb:base'<=b):w.ownsRow base' e size v n c:=by
 refine⟨h.1,?_⟩;rcases h.2 with h|⟨g,cap,f,i,j,r⟩
 {exact .inl h};{exact .inr ⟨g,cap,f,i,p7 hb j,r⟩}
theorem jk (W:M)(b:Array ZC)(ty:ZI)(g j:Nat)(v:ZC)(c:g=W.heap.size)(f:b[j]?=T v):(W.alloc (J b ty)).cell? (Q g j Y)=T v:=by subst c;simp[f]
theorem dr{v:ZC}{f:List ZC}(h:w.ownsRow b e 1 v n f)(hn:0<n):∃g cap,v=Z (T (Q g 0 Y)) n cap:=by
 rcases h.2 with ⟨_,h0⟩|⟨g,cap,cur,c,_⟩
 {omega};{exact⟨g,cap,c⟩}
def de (f:Nat->Deed)(n:Nat):Bool:=decide ((eW f n).1=0)
theorem fT{f:Nat->Deed}(h:de f n=ZG):1<=n/\n<=400/\aM (bi f) n=-1:=by
 have h1:(eW f n).1=0:=QO h;unfold eW at h1;split at h1;{simp at h1};{rename_i h2;refine⟨by omega,by omega,?_⟩;split at h1;{simp at h1};{rename_i h3;exact UN λb=>h3 b}}
def fB:Deed:={ e:=⟨#[]⟩,m:=0,E:=0,B:=⟨#[]⟩,f:=0,H:=λ_=>⟨0,⟨#[]⟩,0⟩,b:=0,D:=λ_=>⟨⟨#[]⟩,ZA,ZA,0⟩ }
def dF (L:List Deed)(i:Nat):Deed:=L.getD i fB
def jP (f:Nat->Deed)(t:ByteArray)(n:Nat):Int:=aM (λi=>!((f i).e.toList == t.toList)) n
structure DBox (w:M)(b:Nat)(v0 v1 v2 v3 v4 v5:ZC):Prop where
 lt:b<w.heap.size
 c0:A w (Q b 0 Y)=T v0/\w.frozen? (Q b 0 Y)=ZA
 c1:A w (Q b 1 Y)=T v1/\w.frozen? (Q b 1 Y)=ZA
 c2:A w (Q b 2 Y)=T v2/\w.frozen? (Q b 2 Y)=ZA
 c3:A w (Q b 3 Y)=T v3/\w.frozen? (Q b 3 Y)=ZA
 c4:A w (Q b 4 Y)=T v4/\w.frozen? (Q b 4 Y)=ZA
 c5:A w (Q b 5 Y)=T v5/\w.frozen? (Q b 5 Y)=ZA
theorem DBox.ad{w':M}{n:ZC}(h:DBox w b i n m g j l)(hz:w.heap.size<=w'.heap.size)(e:w'.heap[b]?=w.heap[b]?):DBox w' b i n m g j l :=
 have c:∀o,A w' (Q b o Y)=A w (Q b o Y):=λo=>cq (a:=(Q b o Y)) e;have f:∀o,w'.frozen? (Q b o Y)=w.frozen? (Q b o Y):=λo=>JN (a:=(Q b o Y)) e
 ⟨lj h.lt hz,⟨(c 0).trans h.c0.1,(f 0).trans h.c0.2⟩,⟨(c 1).trans h.c1.1,(f 1).trans h.c1.2⟩,⟨(c 2).trans h.c2.1,(f 2).trans h.c2.2⟩,⟨(c 3).trans h.c3.1,(f 3).trans h.c3.2⟩,⟨(c 4).trans h.c4.1,(f 4).trans h.c4.2⟩,⟨(c 5).trans h.c5.1,(f 5).trans h.c5.2⟩⟩
theorem DBox.aa{j:M}(h:DBox w b f m g c i l)(hb:Below B w j)(n:b<B):DBox j b f m g c i l:=h.ad hb.size (hb.block b n)
theorem DBox.far (h:DBox w b f l j c g i){p:Addr}(m:p.block≠b)(v:ZC):DBox (w.setCell p v) b f l j c g i:=h.ad (by simp) (qh _ _ _ _ (λe=>m e.symm))
theorem DBox.set1 (h:DBox w b f l j c g i)(v:ZC):DBox (w.setCell (Q b 1 Y) v) b f v j c g i :=
 ⟨by simpa using h.lt,⟨(sq _ _ _ _ (by simp)).trans h.c0.1,by simpa using h.c0.2⟩,⟨CX _ _ _ (by rw[h.c1.1];rfl),by simpa using h.c1.2⟩,⟨(sq _ _ _ _ (by simp)).trans h.c2.1,by simpa using h.c2.2⟩,⟨(sq _ _ _ _ (by simp)).trans h.c3.1,by simpa using h.c3.2⟩,⟨(sq _ _ _ _ (by simp)).trans h.c4.1,by simpa using h.c4.2⟩,⟨(sq _ _ _ _ (by simp)).trans h.c5.1,by simpa using h.c5.2⟩⟩
theorem DBox.set2 (h:DBox w b f j l c g i)(v:ZC):DBox (w.setCell (Q b 2 Y) v) b f j v c g i :=
 ⟨by simpa using h.lt,⟨(sq _ _ _ _ (by simp)).trans h.c0.1,by simpa using h.c0.2⟩,⟨(sq _ _ _ _ (by simp)).trans h.c1.1,by simpa using h.c1.2⟩,⟨CX _ _ _ (by rw[h.c2.1];rfl),by simpa using h.c2.2⟩,⟨(sq _ _ _ _ (by simp)).trans h.c3.1,by simpa using h.c3.2⟩,⟨(sq _ _ _ _ (by simp)).trans h.c4.1,by simpa using h.c4.2⟩,⟨(sq _ _ _ _ (by simp)).trans h.c5.1,by simpa using h.c5.2⟩⟩
theorem DBox.set3 (h:DBox w b c j i l f g)(v:ZC):DBox (w.setCell (Q b 3 Y) v) b c j i v f g :=
 ⟨by simpa using h.lt,⟨(sq _ _ _ _ (by simp)).trans h.c0.1,by simpa using h.c0.2⟩,⟨(sq _ _ _ _ (by simp)).trans h.c1.1,by simpa using h.c1.2⟩,⟨(sq _ _ _ _ (by simp)).trans h.c2.1,by simpa using h.c2.2⟩,⟨CX _ _ _ (by rw[h.c3.1];rfl),by simpa using h.c3.2⟩,⟨(sq _ _ _ _ (by simp)).trans h.c4.1,by simpa using h.c4.2⟩,⟨(sq _ _ _ _ (by simp)).trans h.c5.1,by simpa using h.c5.2⟩⟩
theorem DBox.set4 (h:DBox w b f j i c l g)(v:ZC):DBox (w.setCell (Q b 4 Y) v) b f j i c v g :=
 ⟨by simpa using h.lt,⟨(sq _ _ _ _ (by simp)).trans h.c0.1,by simpa using h.c0.2⟩,⟨(sq _ _ _ _ (by simp)).trans h.c1.1,by simpa using h.c1.2⟩,⟨(sq _ _ _ _ (by simp)).trans h.c2.1,by simpa using h.c2.2⟩,⟨(sq _ _ _ _ (by simp)).trans h.c3.1,by simpa using h.c3.2⟩,⟨CX _ _ _ (by rw[h.c4.1];rfl),by simpa using h.c4.2⟩,⟨(sq _ _ _ _ (by simp)).trans h.c5.1,by simpa using h.c5.2⟩⟩
theorem DBox.set5 (h:DBox w b f j i c g l)(v:ZC):DBox (w.setCell (Q b 5 Y) v) b f j i c g v :=
 ⟨by simpa using h.lt,⟨(sq _ _ _ _ (by simp)).trans h.c0.1,by simpa using h.c0.2⟩,⟨(sq _ _ _ _ (by simp)).trans h.c1.1,by simpa using h.c1.2⟩,⟨(sq _ _ _ _ (by simp)).trans h.c2.1,by simpa using h.c2.2⟩,⟨(sq _ _ _ _ (by simp)).trans h.c3.1,by simpa using h.c3.2⟩,⟨(sq _ _ _ _ (by simp)).trans h.c4.1,by simpa using h.c4.2⟩,⟨CX _ _ _ (by rw[h.c5.1];rfl),by simpa using h.c5.2⟩⟩
theorem oR (w:M)(c i g b h f:ZC)(t:ZI):DBox (w.alloc (J #[c,i,g,b,h,f] t)) w.heap.size c i g b h f:=by refine⟨by simp,?_,?_,?_,?_,?_,?_⟩<;>simp
theorem DX (b off m c:Nat)(g:Nat->Deed)(t:ByteArray)(w:M)(hmm:(m:Int)<=1048576)(l:RowDeed w b off m g):Calls Pg 62 #[ZH #[Z (T (Q b off Y)) m c],U t] w λe u=>e=ZF (N I (jP g t m))/\Below w.heap.size w u:=by
 obtain⟨W,h⟩:∃W:M,w.alloc (J #[Z (T (Q b off Y)) m c] 37)=W:=⟨_,rfl⟩
 obtain⟨q,-,-⟩:=nb1 h;have f:=ae h;clear h;have s:=ae (l.aa q ly);have k0:A W (Q w.heap.size 0 Y)=T (Z (T (Q b off Y)) m c):=by rw[<-f.out];simp
 clear l;go_enter func62,ntmps62;go_wp2;rw[f.out];clear f;go_loop [5] (λi=>∃k:Nat,k<=m/\i=N I k/\Hid (∀j,j<k->(!((g j).e.toList == t.toList))=ZG)) (λi=>m - (intOf i).toNat);case atStart=>exact⟨0,by omega,rfl,λj r=>absurd r (PS _)⟩
 case round =>
  obtain⟨k,hk,rfl,o⟩:=hrel;by_cases n:k<m
  ·obtain⟨c0,_⟩:=s.2 k n;cases hb:((g k).e.toList == t.toList) with
   |true =>have p:=ae hb;go_wp2;go_ret;refine⟨?_,q⟩;rw[jP,fQ n (by rw[p.out];rfl) o.out];rfl
   |false =>
    have p:=ae hb;go_wp2;refine⟨⟨k+1,by omega,by go_num,λj r=>?_⟩,by simp[intOf];omega⟩;by_cases e:j=k;{subst e;rw[p.out];rfl};{exact o j (by omega)}
  ·have e:k=m:=by omega
   subst e;go_wp2;go_ret;refine⟨?_,q⟩;rw[jP,fE o.out];rfl
theorem DY (a:Option Addr)(c:Nat)(g:Nat->Deed)(t:ByteArray)(w:M):Calls Pg 62 #[ZH #[Z a 0 c],U t] w λe h=>e=ZF (N I (jP g t 0))/\Below w.heap.size w h:=by
 have b:=ae ((q9 w).alloc ly (J #[Z a 0 c] 37));have f:(w.alloc (J #[Z a 0 c] 37)).cell? (Q w.heap.size 0 Y)=T (Z a 0 c):=by simp
 go_enter func62,ntmps62;go_wp2;generalize World.alloc w _=W at b f ⊢;go_loop [5] (λi=>i=N I 0) (λ_=>0);case atStart=>rfl
 case round =>subst hrel;go_wp2;go_ret;exact⟨rfl,b⟩
theorem DZ (a:Option Addr)(m c:Nat)(g:Nat->Deed)(t:ByteArray)(w:M)(f:(m:Int)<=1048576)(h:SlDeed w a m g):Calls Pg 62 #[ZH #[Z a m c],U t] w λe i=>e=ZF (N I (jP g t m))/\Below w.heap.size w i:=by
 by_cases hz:m=0;{subst hz;exact DY a c g t w};{obtain⟨b,off,rfl,j⟩:=h.resolve_left hz;exact DX b off m c g t w f j}
open Go.Sort
abbrev eC (a b:ByteArray):Bool:=Op.bytesLess a.toList b.toList
def cI (g:Nat->ByteArray)(n:Nat)(t:ByteArray):Bool:=(List.range n).any λi=>(g i).toList == t.toList
theorem rY (g:Nat->ByteArray)(t:ByteArray):cI g 0 t=ZA:=rfl
def dH (p:Nat->Bool):Nat->Bool
 |0=>ZA
 |k+1=>dH p k || p k
theorem lQ{p:Nat->Bool}{k:Nat}(h:k<n)(c:p k=ZG):dH p n=ZG:=by
 induction n with
 |zero=>omega
 |succ m b =>
  by_cases e:k=m;{subst e;simp[dH,c]};{simp[dH,b (by omega)]}
def pS (x:Source):Bool:=decide (2000<(x.B.size:Int))
def fc (x:Target):Bool:=!valid x.H x.f
abbrev nm0 (f0:Nat->Source):Nat->ByteArray:=λi=>(f0 i).e
abbrev nm1 (f1:Nat->Target):Nat->ByteArray:=λi=>(f1 i).e
def ce (n0:Nat)(f0:Nat->Source)(n1:Nat)(f1:Nat->Target):Int :=
 if 200<n0+n1 then 1 else if dO (nm0 f0) n0=ZA then 2 else if dO (nm1 f1) n1=ZA then 2 else if dT (nm0 f0) n0=ZA then 3 else if dT (nm1 f1) n1=ZA then 4
 else if dH (λi=>cI (nm1 f1) n1 (nm0 f0 i)) n0=ZG then 5 else if dH (λi=>pS (f0 i)) n0=ZG then 6 else if dH (λi=>fc (f1 i)) n1=ZG then 7 else 0
theorem kf (g:Nat->ByteArray)(k:Nat)(t:ByteArray):cI g (k+1) t=(cI g k t || ((g k).toList == t.toList)):=by simp[cI,PD]
theorem mT{g:Nat->ByteArray}{k:Nat}{t:ByteArray}(h:k<n)(b:((g k).toList == t.toList)=ZG):cI g n t=ZG:=by simp only[cI,List.any_eq_true,PL];exact⟨k,h,b⟩
theorem ui (a0:Option Addr)(n0 c0 b off n1 c1:Nat)(f1:Nat->Target)(t:ByteArray)(w:M)(hn1:(n1:Int)<=1048576)(j:RowTarget w b off n1 f1):Calls Pg 52 #[ZH #[Z a0 n0 c0,Z (T (Q b off Y)) n1 c1],U t] w λe p=>∃r:Int,e=ZF (N I r)/\decide (0<=r)=cI (nm1 f1) n1 t/\Below w.heap.size w p:=by
 obtain⟨W,f⟩:∃W:M,w.alloc (J #[Z a0 n0 c0,Z (T (Q b off Y)) n1 c1] 27)=W:=⟨_,rfl⟩
 obtain⟨m,-,-⟩:=nb1 f;have c:=ae f;clear f;have o:=ae (j.aa m ly);have k1:A W (Q w.heap.size 1 Y)=T (Z (T (Q b off Y)) n1 c1):=by rw[<-c.out];simp
 clear j;go_enter func52,ntmps52;go_wp2;rw[c.out];clear c;go_loop [5] (λi=>∃k:Nat,k<=n1/\i=N I k/\Hid (cI (nm1 f1) k t=ZA)) (λi=>n1 - (intOf i).toNat);case atStart=>exact⟨0,by omega,rfl,rfl⟩
 case round =>
  obtain⟨k,hk,rfl,n⟩:=hrel;by_cases h:k<n1
  ·obtain⟨d0,ka,kc,d1,_⟩:=o.2 k h;cases hb:((f1 k).e.toList == t.toList) with
   |true =>have l:=ae hb;go_wp2;go_ret;exact⟨k,rfl,by rw[mT (g:=nm1 f1) h l.out];simp,m.out⟩
   |false =>have l:=ae hb;go_wp2;exact⟨⟨k+1,by omega,by go_num,by show cI (nm1 f1) (k+1) t=ZA;rw[kf,n.out];exact l⟩,by simp[intOf];omega⟩
  ·have e:k=n1:=by omega
   subst e;go_wp2;go_ret;exact⟨-1,rfl,by rw[n.out];rfl,m⟩
theorem oS{a b:ByteArray}(h:a.toList=b.toList):a=b:=by rw[BG,BG] at h;exact ON (Array.toList_inj.1 h)
theorem bytes_beq{a b:ByteArray}(h:(a.toList == b.toList)=ZG):a=b:=oS (by simpa using h)
theorem AO{n0:Nat}{f0:Nat->Source}{n1:Nat}{f1:Nat->Target}(h:ce n0 f0 n1 f1=0):dT (nm0 f0) n0=ZG/\dT (nm1 f1) n1=ZG/\n0+n1<=200:=by
 unfold ce at h;split at h;· omega
 split at h;· omega
 split at h;· omega
 split at h;· omega
 split at h;· omega
 rename_i h0 _ _ h3 h4;exact⟨by simpa using h3,by simpa using h4,by omega⟩
theorem slS{a:Option Addr}{f:Nat->Source}(h:SlSource w a n f)(hn:n≠0):∃b off,a=T (Q b off Y)/\RowSource w b off n f:=h.resolve_left hn
theorem slT{a:Option Addr}{f:Nat->Target}(h:SlTarget w a n f)(hn:n≠0):∃b off,a=T (Q b off Y)/\RowTarget w b off n f:=h.resolve_left hn
theorem bx2{W b:M}{u v:ZC}(z:w.heap.size<W.heap.size)(f:A W (Q w.heap.size 0 Y)=T u)(g:A W (Q w.heap.size 1 Y)=T v)(ZS:Hid (Below w.heap.size w W))(c:Below W.heap.size W b):A b (Q w.heap.size 0 Y)=T u/\A b (Q w.heap.size 1 Y)=T v/\w.heap.size<b.heap.size/\Hid (Below w.heap.size w b) :=
 ⟨(c.cell (p:=(Q w.heap.size 0 Y)) z).trans f,(c.cell (p:=(Q w.heap.size 1 Y)) z).trans g,lj z c.size,ZS.trans (c.mono ZS.size)⟩
theorem uj (a0:Option Addr)(n0 c0:Nat)(a1:Option Addr)(c1:Nat)(g:Nat->ByteArray)(t:ByteArray)(w:M):Calls Pg 52 #[ZH #[Z a0 n0 c0,Z a1 0 c1],U t] w λe b=>∃r:Int,e=ZF (N I r)/\decide (0<=r)=cI g 0 t/\Below w.heap.size w b:=by
 have c:=ae ((q9 w).alloc ly (J #[Z a0 n0 c0,Z a1 0 c1] 27));go_enter func52,ntmps52;go_wp2;go_loop [5] (λi=>i=N I 0) (λ_=>0);case atStart=>rfl
 case round =>subst hrel;go_wp2;go_ret;exact⟨-1,rfl,by rw[rY];rfl,c⟩
theorem mU (a0:Option Addr)(n0 c0:Nat)(a1:Option Addr)(n1 c1:Nat)(f1:Nat->Target)(t:ByteArray)(w:M)(hn1:(n1:Int)<=1048576)(c:SlTarget w a1 n1 f1):Calls Pg 52 #[ZH #[Z a0 n0 c0,Z a1 n1 c1],U t] w λe f=>∃r:Int,e=ZF (N I r)/\decide (0<=r)=cI (nm1 f1) n1 t/\Below w.heap.size w f:=by
 rcases c with rfl|⟨b,off,rfl,g⟩
 {exact uj a0 n0 c0 a1 c1 (nm1 f1) t w};{exact ui a0 n0 c0 b off n1 c1 f1 t w hn1 g}
theorem fC (a0:Option Addr)(n0 c0:Nat)(f0:Nat->Source)(a1:Option Addr)(n1 c1:Nat)(f1:Nat->Target)(w:M)(hn0:(n0:Int)<=1048576)(hn1:(n1:Int)<=1048576)(ld:SlSource w a0 n0 f0)(la:SlTarget w a1 n1 f1)(ZN:∀i,i<n1->cT (f1 i))(hs:∀i,i<n1->∀j,j<(f1 i).f->((f1 i).H j).s.size<=maxLen):Calls Pg 49 #[ZH #[Z a0 n0 c0,Z a1 n1 c1]] w λe w'=>e=ZF (N I (ce n0 f0 n1 f1))/\Below w.heap.size w w':=by
 have V0:=ae ld;have ZK:=ae la;have HF:=ae ZN;have HS:=ae hs;clear ld la ZN hs;obtain⟨C,hC⟩:∃C,C=ce n0 f0 n1 f1:=⟨_,rfl⟩
 rw[<-hC];unfold ce at hC;have HC:=ae hC;clear hC;have R:=ae ((q9 w).alloc ly (J #[Z a0 n0 c0,Z a1 n1 c1] 27));have D:(w.alloc (J #[Z a0 n0 c0,Z a1 n1 c1] 27)).cell? (Q w.heap.size 0 Y)=T (Z a0 n0 c0):=by simp
 have ZQ:(w.alloc (J #[Z a0 n0 c0,Z a1 n1 c1] 27)).cell? (Q w.heap.size 1 Y)=T (Z a1 n1 c1):=by simp
 have z0:w.heap.size<(w.alloc (J #[Z a0 n0 c0,Z a1 n1 c1] 27)).heap.size:=by simp
 go_enter func49,ntmps49;by_cases h1:(200:Int)<n0+n1;{have c:=HC.out;rw[p6 (by omega)] at c;subst c;go_wp2;go_ret;exact⟨rfl,R⟩};have ZL:=HC.out;rw[gM (by omega)] at ZL;have aq:=ae ZL;clear ZL HC;go_wp2;generalize World.alloc w _=W0 at R D ZQ z0 ⊢;go_loopw [5] (λi wr=>∃k:Nat,k<=n0/\i=N I k/\Hid (dO (nm0 f0) k=ZG)/\Below W0.heap.size W0 wr) (λi _=>n0 - (intOf i).toNat);case atStart=>exact⟨0,by omega,rfl,rfl,dB _ _⟩
 case round =>
  obtain⟨k,P,rfl,n,m⟩:=hrel;obtain⟨K,B,z1,ZM⟩:=bx2 z0 D ZQ R m;have o:=ae m;clear m;by_cases f:k<n0
  ·obtain⟨b,off,rfl,h⟩:=slS V0 (by omega);obtain⟨x,u⟩:=(h.2 k f).aa ZM h.1;clear h D ZQ;go_wp2_with fail;refine(dc _ _).mono ?_;rintro e w1 ⟨rfl,q⟩;have t:=ae (o.trans (q.mono o.size));clear q;cases l:aw (f0 k).e with
   |true =>have p:=ae l;clear l;go_wp2;exact⟨⟨k+1,by omega,by go_num,by show dO (nm0 f0) (k+1)=ZG;simp[dO,n.out,p.out],t.out⟩,by simp[intOf];omega⟩
   |false =>have p:=ae l;have c:=aq.out;rw[p6 (mL (g:=(nm0 f0)) f p.out)] at c;subst c;clear l;go_wp2;go_ret;exact⟨rfl,R.trans (t.mono R.size)⟩
  ·have e:n0=k:=by omega
   subst e;have c:=aq.out;rw[gM (by simp[n.out])] at c;have ZJ:=ae c;clear c aq n o D ZQ;go_wp2;generalize wr=W1 at K B z1 ZM ⊢;go_loopw [6] (λi wr=>∃k:Nat,k<=n1/\i=N I k/\Hid (dO (nm1 f1) k=ZG)/\Below W1.heap.size W1 wr) (λi _=>n1 - (intOf i).toNat);case atStart=>exact⟨0,by omega,rfl,rfl,dB _ _⟩
   case round =>
    obtain⟨k,P,rfl,n,m⟩:=hrel;obtain⟨ZP,ZS,z2,A2⟩:=bx2 z1 K B ZM m;have o:=ae m;clear m;by_cases f:k<n1
    ·obtain⟨b,off,rfl,h⟩:=slT ZK (by omega);obtain⟨x,ka,kc,u,_⟩:=(h.2 k f).aa A2 ly h.1;clear h K B;go_wp2_with fail;refine(dc _ _).mono ?_;rintro e w1 ⟨rfl,q⟩;have t:=ae (o.trans (q.mono o.size));clear q;cases l:aw (f1 k).e with
     |true =>have p:=ae l;clear l;go_wp2;exact⟨⟨k+1,by omega,by go_num,by show dO (nm1 f1) (k+1)=ZG;simp[dO,n.out,p.out],t.out⟩,by simp[intOf];omega⟩
     |false =>have p:=ae l;have c:=ZJ.out;rw[p6 (mL (g:=(nm1 f1)) f p.out)] at c;subst c;clear l;go_wp2;go_ret;exact⟨rfl,ZM.trans (t.mono ZM.size)⟩
    ·have e:n1=k:=by omega
     subst e;have c:=ZJ.out;rw[gM (by simp[n.out])] at c;have bt:=ae c;clear c ZJ n o K B;go_wp2;generalize wr=W2 at ZP ZS z2 A2 ⊢;go_loopw [7] (λi wr=>∃k:Nat,(k+1<=n0∨k=0)/\i=N I ((k:Int)+1)/\Hid (dT (nm0 f0) (k+1)=ZG)/\Below W2.heap.size W2 wr) (λi _=>n0+1 - (intOf i).toNat);case atStart=>exact⟨0,.inr rfl,rfl,rfl,dB _ _⟩
     case round =>
      obtain⟨k,P,rfl,n,m⟩:=hrel;obtain⟨H,G,z3,O⟩:=bx2 z2 ZP ZS A2 m;have o:=ae m;clear m;by_cases f:k+1<n0
      ·obtain⟨b,off,rfl,h⟩:=slS V0 (by omega);obtain⟨x,u⟩:=(h.2 k (by omega)).aa O h.1;obtain⟨e0,e1⟩:=(h.2 (k+1) f).aa O h.1;have mv:(k:Int)+1<n0:=by omega
       clear h ZP ZS;go_wp2_with fail;go_quiet (fail);have t:=ae (BM o nq);clear x u e0 e1;generalize wr.drewN nq=X at t ⊢;cases l:Op.bytesLess (f0 k).e.toList (f0 (k+1)).e.toList with
       |true =>have p:=ae l;clear l;go_wp2;exact⟨⟨k+1,.inl (by omega),by go_num,by show dT (nm0 f0) (k+2)=ZG;simp[dT,n.out,p.out],t.out⟩,by simp[intOf];omega⟩
       |false =>have p:=ae l;have c:=bt.out;rw[p6 (ou (g:=(nm0 f0)) f p.out)] at c;subst c;clear l;go_wp2;go_ret;exact⟨rfl,A2.trans (t.mono A2.size)⟩
      ·have ph:¬ (k:Int)+1<n0:=by omega
       have c:=bt.out;rw[gM (by simp[lP (show n0<=k+1 by omega) n.out])] at c;have V:=ae c;clear c bt n o ZP ZS;go_wp2;generalize wr=W3 at H G z3 O ⊢;go_loopw [8] (λi wr=>∃k:Nat,(k+1<=n1∨k=0)/\i=N I ((k:Int)+1)/\Hid (dT (nm1 f1) (k+1)=ZG)/\Below W3.heap.size W3 wr) (λi _=>n1+1 - (intOf i).toNat);case atStart=>exact⟨0,.inr rfl,rfl,rfl,dB _ _⟩
       case round =>
        obtain⟨k,P,rfl,n,m⟩:=hrel;obtain⟨F,z,z4,ZO⟩:=bx2 z3 H G O m;have o:=ae m;clear m;by_cases f:k+1<n1
        ·obtain⟨b,off,rfl,h⟩:=slT ZK (by omega);obtain⟨x,ka,kc,u,_⟩:=(h.2 k (by omega)).aa ZO ly h.1;obtain⟨e0,kb,kd,e1,_⟩:=(h.2 (k+1) f).aa ZO ly h.1;have mv:(k:Int)+1<n1:=by omega
         clear h H G;go_wp2_with fail;go_quiet (fail);have t:=ae (BM o nq);clear x u e0 e1;generalize wr.drewN nq=X at t ⊢;cases l:Op.bytesLess (f1 k).e.toList (f1 (k+1)).e.toList with
         |true =>have p:=ae l;clear l;go_wp2;exact⟨⟨k+1,.inl (by omega),by go_num,by show dT (nm1 f1) (k+2)=ZG;simp[dT,n.out,p.out],t.out⟩,by simp[intOf];omega⟩
         |false =>have p:=ae l;have c:=V.out;rw[p6 (ou (g:=(nm1 f1)) f p.out)] at c;subst c;clear l;go_wp2;go_ret;exact⟨rfl,O.trans (t.mono O.size)⟩
        ·have ph:¬ (k:Int)+1<n1:=by omega
         have c:=V.out;rw[gM (by simp[lP (show n1<=k+1 by omega) n.out])] at c;have S:=ae c;clear c V n o H G;go_wp2;generalize wr=W4 at F z z4 ZO ⊢;go_loopw [9] (λi wr=>∃k:Nat,k<=n0/\i=N I k/\Hid (dH (λi=>cI (nm1 f1) n1 (nm0 f0 i)) k=ZA)/\Below W4.heap.size W4 wr) (λi _=>n0 - (intOf i).toNat);case atStart=>exact⟨0,by omega,rfl,rfl,dB _ _⟩
         case round =>
          obtain⟨k,P,rfl,n,m⟩:=hrel;obtain⟨ZR,L,z5,y⟩:=bx2 z4 F z ZO m;have o:=ae m;clear m;by_cases f:k<n0
          ·obtain⟨b,off,rfl,h⟩:=slS V0 (by omega);obtain⟨x,u⟩:=(h.2 k f).aa y h.1;clear h F z;go_wp2_with fail;go_region_with (go_at_call 52;refine(mU (T (Q b off Y)) n0 c0 a1 n1 c1 f1 (f0 k).e _ hn1 ?_).mono ?_;(first|exact ZK.aa y ly|exact ZK.aa y.drew ly);rintro e w1 ⟨r,rfl,hd,q⟩;have HD:=ae hd;clear hd;have t:Hid (Below wr.heap.size wr w1):=⟨q.os,q.tape,q.output,q.size,q.block⟩;clear q);all_goals
            have B2:=ae (o.trans (t.mono o.size));clear x u t;by_cases l:0<=r
            ·have c:=S.out
             rw[p6 (lQ f (by have:=HD.out;rw[decide_eq_true l] at this;exact this.symm))] at c;subst c;go_wp2;go_ret;exact⟨rfl,ZO.trans (B2.mono ZO.size)⟩
            ·have p:=ae l
             go_wp2;exact⟨⟨k+1,by omega,by go_num,by show dH _ (k+1)=ZA;have:=HD.out;rw[decide_eq_false p.out] at this;simp[dH,n.out,<-this],B2.out⟩,by simp[intOf];omega⟩
          ·have e:n0=k:=by omega
           subst e;have c:=S.out;rw[gM (by simp[n.out])] at c;have fd:=ae c;clear c S n o F z;go_wp2;generalize wr=W5 at ZR L z5 y ⊢;go_loopw [10] (λi wr=>∃k:Nat,k<=n0/\i=N I k/\Hid (dH (λi=>pS (f0 i)) k=ZA)/\Below W5.heap.size W5 wr) (λi _=>n0 - (intOf i).toNat);case atStart=>exact⟨0,by omega,rfl,rfl,dB _ _⟩
           case round =>
            obtain⟨k,P,rfl,n,m⟩:=hrel;obtain⟨W,dg,z6,A6⟩:=bx2 z5 ZR L y m;have o:=ae m;clear m;by_cases f:k<n0;{obtain⟨b,off,rfl,h⟩:=slS V0 (by omega);obtain⟨x,u⟩:=(h.2 k f).aa A6 h.1;clear h ZR L;by_cases l:(2000:Int)<(f0 k).B.size;{have c:=fd.out;rw[p6 (lQ f (by simpa[pS] using l))] at c;subst c;go_wp2;go_ret;exact⟨rfl,y.trans (o.mono y.size)⟩};{have p:Hid (pS (f0 k)=ZA):=decide_eq_false l;go_wp2;exact⟨⟨k+1,by omega,by go_num,by show dH _ (k+1)=ZA;simp[dH,n.out,p.out],o.out⟩,by simp[intOf];omega⟩}}
            ·have e:n0=k:=by omega
             subst e;have c:=fd.out;rw[gM (by simp[n.out])] at c;have n9:=ae c;clear c fd n o ZR L;go_wp2;generalize wr=W6 at W dg z6 A6 ⊢;go_loopw [11,4] (λi v wr=>∃(k:Nat) (r:Int),k<=n1/\i=N I k/\v=N I r/\Hid (r=if dH (λi=>fc (f1 i)) k=ZG then 7 else 0)/\Below W6.heap.size W6 wr) (λi _ _=>n1 - (intOf i).toNat);case atStart=>exact⟨0,0,by omega,rfl,rfl,rfl,dB _ _⟩
             case round =>
              obtain⟨k,r,P,rfl,rfl,n,m⟩:=hrel;obtain⟨k70,k71,z7,A7⟩:=bx2 z6 W dg A6 m;have o:=ae m;clear m;by_cases f:k<n1
              ·obtain⟨b,off,rfl,h⟩:=slT ZK (by omega);obtain⟨x,ka,kc,u,hx⟩:=(h.2 k f).aa A7 ly h.1;have HX:=ae hx;clear h hx W dg;go_wp2_with fail;refine(jN ka (f1 k).f kc (f1 k).H _ (HF k f) HX (HS k f)).mono ?_;rintro e w1 ⟨rfl,q⟩;have t:=ae (o.trans (q.mono o.size));clear q x u;cases l:valid (f1 k).H (f1 k).f with
               |true =>
                have p:=ae l;clear l;have E:Hid (dH (λi=>fc (f1 i)) (k+1)=dH (λi=>fc (f1 i)) k):=by show(dH _ k || fc (f1 k))=_;rw[show fc (f1 k)=ZA by unfold fc;rw[p.out];rfl,Bool.or_false]
                go_wp2;exact⟨⟨k+1,r,by omega,by go_num,rfl,by show r=_;rw[E.out];exact n,t⟩,by simp[intOf];omega⟩
               |false =>
                have p:=ae l;clear l;have E:Hid (dH (λi=>fc (f1 i)) (k+1)=ZG):=by show(dH _ k || fc (f1 k))=_;rw[show fc (f1 k)=ZG by unfold fc;rw[p.out];rfl,Bool.or_true]
                go_wp2;exact⟨⟨k+1,7,by omega,by go_num,rfl,by show(7:Int)=_;rw[p6 E.out],t.out⟩,by simp[intOf];omega⟩
              ·have e:n1=k:=by omega
               subst e;have c:=n9.out;rw[<-n.out] at c;subst c;go_wp2;go_ret;exact⟨rfl,A6.trans (o.mono A6.size)⟩
