import Derived.Sort.Walk0
import Derived.Test.YtpmnbjkjpnclaaaGreatDoorSD
import Derived.OneCell
import Derived.OwnWalk
import Derived.Maps.AppendAt
import Derived.Deep.RegionLaw
set_option maxRecDepth 100000
set_option maxHeartbeats 16000000
set_option linter.unusedSimpArgs false
open Go renaming Addr.mk->Q,Value.slice->Z,Value.string->Y,Value.int->J,Obj.cells->N,IntKind.i64->I,World->M,Value->ZC,TypeId->ZH,Ending.returned->ZF,World.cell?->A,Proofs.Tryz.prog->Pg
open Option renaming none->U,some->T
open Bool renaming false->ZA,true->ZG
namespace Go.Proofs.YtpmnbjkjpnclaaaGreatDoor.Vp
open Tryz
variable {w:M}{n b B size:Nat}{i g j l f c m:ZC}{P:Program}{o:Oper}{a:Act}{ZM:Exit->Act->M->Prop}{e:ZH}{ZR:Array Oper}{K:Act->M->Prop}{E:Prop}
theorem aG (O:o.guard=U)(s x:Operand)(t:ZH)
  (ZJ:o.op=.call { callee:=.builtin .append,args:=#[s,x],argTypes:=#[t,t] })
  (b:Nat) (e:ZH) (i:TypeInfo) (z:ZC) (size f:Nat) (L:P.underlying t=T (.slice e)) (hi:P.info? e=T i) (hz:i.zero=T z)
  (r:i.size=size) (H:i.bytes=f) (G:z.cells.size=size) (F:0<size)
  (v:ZC) (n:Nat) (B:List ZC) (R:a.eval s=v) (C:w.ownsRow b e size v n B)
  (D:Addr) (m c:Nat) (news:List ZC) (ZN:a.eval x=Z (T D) m c) (ZO:news.length=m*size) (q:∀j u,news[j]?=T u->w.cell? (D.add j)=T u) (h1:∀u∈news,u.oneCell'=ZG)
  (ZP:n+m<=maxLen) (p:(n+m)*f<=140737488355328) (y:b<=w.heap.size)
  (h:∀g l,l.ownsRow b e size g (n+m) (B++news)->w.grownBy l v.ownBlock->(g.ownBlock=v.ownBlock∨g.ownBlock=T w.heap.size)->K (a.put o.dst g) l) :
  if Region.wanted o (yielded ZR a.tmps)=ZG then Oper.wp P o a w K ZM else E:=by
 have ZQ:Region.wanted o (yielded ZR a.tmps)=ZG:=by simp[Region.wanted,O]
 rw[p6 ZQ];obtain⟨g,l,ZL,h2,h3,h4,S⟩:=run_append_own_at (P:=P) w b t o.type e i z size f L hi hz r H G F v n B C D m c news ZO q h1 ZP p y;unfold Oper.wp execOp;simp only[ZJ,resolve,invoke,builtin,WF,WG,SU,UB,PM,PQ,R,ZN,ZL];exact h g l h2 h3 S
theorem bC (w:M){rest:List Oper}(ZQ:o.guard=U)(s x:Operand)(t:ZH)
  (S:o.op=.call { callee:=.builtin .append,args:=#[s,x],argTypes:=#[t,t] })
  (b:Nat) (e:ZH) (i:TypeInfo) (z:ZC) (size f:Nat) (K:P.underlying t=T (.slice e)) (hi:P.info? e=T i) (hz:i.zero=T z)
  (r:i.size=size) (H:i.bytes=f) (G:z.cells.size=size) (E:0<size)
  (v:ZC) (n:Nat) (B:List ZC) (ZO:a.eval s=v) (C:w.ownsRow b e size v n B)
  (D:Addr) (m c:Nat) (news:List ZC) (ZN:a.eval x=Z (T D) m c) (L:news.length=m*size) (q:∀j u,news[j]?=T u->w.cell? (D.add j)=T u) (h1:∀u∈news,u.oneCell'=ZG)
  (ZP:n+m<=maxLen) (p:(n+m)*f<=140737488355328) (y:b<=w.heap.size)
  (h:∀g l,l.ownsRow b e size g (n+m) (B++news)->w.grownBy l v.ownBlock->(g.ownBlock=v.ownBlock∨g.ownBlock=T w.heap.size)->wpList P ZR ZM rest (a.put o.dst g) l) :
  wpList P ZR ZM (o::rest) a w:=by
 refine wpList_plain ZQ λK' F=>?_;obtain⟨g,l,R,h2,h3,h4,O⟩:=run_append_own_at (P:=P) w b t o.type e i z size f K hi hz r H G E v n B C D m c news L q h1 ZP p y;unfold Oper.wp execOp;simp only[S,resolve,invoke,builtin,WF,WG,SU,UB,PM,PQ,ZO,ZN,R];exact F _ _ (h g l h2 h3 O)
open RowKit
def dN (g:Nat->ByteArray):Nat->Bool
 |0=>ZG
 |k+1=>dN g k && aw (g k)
theorem ue{g:Nat->ByteArray}{k:Nat}(h:k<=n)(hn:dN g n=ZG):dN g k=ZG:=by
 induction n with
 |zero =>
  obtain rfl:k=0:=by omega
  exact hn
 |succ m b =>
  by_cases e:k=m+1;{subst e;exact hn};{simp only[dN,z8] at hn;exact b (by omega) hn.1}
theorem mI{g:Nat->ByteArray}{k:Nat}(h:k<n)(b:aw (g k)=ZA):dN g n=ZA:=by
 cases e:dN g n with
 |false=>rfl
 |true =>have h2:=ue (show k+1<=n by omega) e;simp[dN,b] at h2
def dR (g:Nat->ByteArray):Nat->Bool
 |0=>ZG
 |1=>ZG
 |k+2=>dR g (k+1) && Op.bytesLess (g k).toList (g (k+1)).toList
theorem lO{g:Nat->ByteArray}{k:Nat}(h:k<=n)(hn:dR g n=ZG):dR g k=ZG:=by
 induction n with
 |zero =>
  obtain rfl:k=0:=by omega
  exact hn
 |succ m b =>
  by_cases e:k=m+1;{subst e;exact hn}
  ·cases m with
   |zero =>
    obtain rfl:k=0:=by omega
    rfl
   |succ j =>simp only[dR,z8] at hn;exact b (by omega) hn.1
theorem og{g:Nat->ByteArray}{k:Nat}(h:k+1<n)(b:Op.bytesLess (g k).toList (g (k+1)).toList=ZA):dR g n=ZA:=by
 cases e:dR g n with
 |false=>rfl
 |true =>have h2:=lO (show k+2<=n by omega) e;simp[dR,b] at h2
theorem cu (w:M)(x:ZC)(t:ZH):∀j u,[x][j]?=T u->(w.alloc (N #[x] t)).cell? (((Q w.heap.size 0 U):Addr).add j)=T u:=by
 intro j u b;match j,b with
 |0,b=>simp at b;subst b;simp[Addr.add]
theorem eK{r:Array Oper}(O:o.guard=U)(s x:Operand)(t:ZH)
  (S:o.op=.call { callee:=.builtin .append,args:=#[s,x],argTypes:=#[t,t] })
  (b:Nat) (e:ZH) (i:TypeInfo) (z:ZC) (size f:Nat) (L:P.underlying t=T (.slice e)) (hi:P.info? e=T i) (hz:i.zero=T z)
  (p:i.size=size) (H:i.bytes=f) (G:z.cells.size=size) (F:0<size)
  (v:ZC) (n:Nat) (ZR:List ZC) (R:a.eval s=v) (B:w.ownsRow b e size v n ZR)
  (D:Addr) (m c:Nat) (news:List ZC) (ZN:a.eval x=Z (T D) m c) (ZO:news.length=m*size) (l:∀j u,news[j]?=T u->w.cell? (D.add j)=T u) (h1:∀u∈news,u.oneCell'=ZG)
  (ZP:n+m<=maxLen) (g:(n+m)*f<=140737488355328) (q:b<=w.heap.size)
  (h:∀C y,y.ownsRow b e size C (n+m) (ZR++news)->w.grownBy y v.ownBlock->(C=Z U 0 0 ↔ v=Z U 0 0/\m=0)->K (a.put o.dst C) y) :
  if Region.wanted o (yielded r a.tmps)=ZG then Oper.wp P o a w K ZM else E:=by
 have ZQ:Region.wanted o (yielded r a.tmps)=ZG:=by simp[Region.wanted,O]
 rw[p6 ZQ];exact wp_append_own w s x t S b e i z size f L hi hz p H G F v n ZR R B D m c news ZN ZO l h1 ZP g q h
theorem own_below{c:M}{v:ZC}{f:List ZC}(h:w.ownsRow b e size v n f)(hb:Below B w c)(i:w.heap.size<=B):c.ownsRow b e size v n f :=
 h.kept (row:=U) ⟨hb.os,hb.tape,hb.output,hb.size,λk g _=>hb.block k (lj g i)⟩ (by cases v.ownBlock<;>simp)
theorem aB{base':Nat}{v:ZC}{f:List ZC}(h:w.ownsRow b e size v n f)(hb:base'<=b):w.ownsRow base' e size v n f:=by
 refine⟨h.1,?_⟩;rcases h.2 with h|⟨g,cap,c,j,i,r⟩
 {exact .inl h};{exact .inr ⟨g,cap,c,j,p7 hb i,r⟩}
theorem jj (W:M)(b:Array ZC)(ty:ZH)(g j:Nat)(v:ZC)(c:g=W.heap.size)(f:b[j]?=T v):(W.alloc (N b ty)).cell? (Q g j U)=T v:=by subst c;simp[f]
theorem dq{v:ZC}{f:List ZC}(h:w.ownsRow b e 1 v n f)(hn:0<n):∃g cap,v=Z (T (Q g 0 U)) n cap:=by
 rcases h.2 with ⟨_,h0⟩|⟨g,cap,cur,c,_⟩
 {omega};{exact⟨g,cap,c⟩}
def de (f:Nat->Deed)(n:Nat):Bool:=decide ((eV f n).1=0)
theorem fS{f:Nat->Deed}(h:de f n=ZG):1<=n/\n<=400/\aM (bi f) n=-1:=by
 have h1:(eV f n).1=0:=QG h;unfold eV at h1;split at h1;{simp at h1};{rename_i h2;refine⟨by omega,by omega,?_⟩;split at h1;{simp at h1};{rename_i h3;exact UH λb=>h3 b}}
def fA:Deed:={ e:=⟨#[]⟩,m:=0,E:=0,B:=⟨#[]⟩,f:=0,H:=λ_=>⟨0,⟨#[]⟩,0⟩,b:=0,D:=λ_=>⟨⟨#[]⟩,ZA,ZA,0⟩ }
def dF (L:List Deed)(i:Nat):Deed:=L.getD i fA
def jO (f:Nat->Deed)(t:ByteArray)(n:Nat):Int:=aM (λi=>!((f i).e.toList == t.toList)) n
structure DBox (w:M)(b:Nat)(v0 v1 v2 v3 v4 v5:ZC):Prop where
 lt:b<w.heap.size
 c0:A w (Q b 0 U)=T v0/\w.frozen? (Q b 0 U)=ZA
 c1:A w (Q b 1 U)=T v1/\w.frozen? (Q b 1 U)=ZA
 c2:A w (Q b 2 U)=T v2/\w.frozen? (Q b 2 U)=ZA
 c3:A w (Q b 3 U)=T v3/\w.frozen? (Q b 3 U)=ZA
 c4:A w (Q b 4 U)=T v4/\w.frozen? (Q b 4 U)=ZA
 c5:A w (Q b 5 U)=T v5/\w.frozen? (Q b 5 U)=ZA
theorem DBox.ab{w':M}{n:ZC}(h:DBox w b i g j l n m)(hz:w.heap.size<=w'.heap.size)(e:w'.heap[b]?=w.heap[b]?):DBox w' b i g j l n m :=
 have c:∀o,A w' (Q b o U)=A w (Q b o U):=λo=>cq (a:=(Q b o U)) e;have f:∀o,w'.frozen? (Q b o U)=w.frozen? (Q b o U):=λo=>JN (a:=(Q b o U)) e
 ⟨lj h.lt hz,⟨(c 0).trans h.c0.1,(f 0).trans h.c0.2⟩,⟨(c 1).trans h.c1.1,(f 1).trans h.c1.2⟩,⟨(c 2).trans h.c2.1,(f 2).trans h.c2.2⟩,⟨(c 3).trans h.c3.1,(f 3).trans h.c3.2⟩,⟨(c 4).trans h.c4.1,(f 4).trans h.c4.2⟩,⟨(c 5).trans h.c5.1,(f 5).trans h.c5.2⟩⟩
theorem DBox.aa{c:M}(h:DBox w b g f i j m l)(hb:Below B w c)(n:b<B):DBox c b g f i j m l:=h.ab hb.size (hb.block b n)
theorem DBox.far (h:DBox w b f c g i l j){p:Addr}(m:p.block≠b)(v:ZC):DBox (w.setCell p v) b f c g i l j:=h.ab (by simp) (qh _ _ _ _ (λe=>m e.symm))
theorem DBox.set1 (h:DBox w b c l f g j i)(v:ZC):DBox (w.setCell (Q b 1 U) v) b c v f g j i :=
 ⟨by simpa using h.lt,⟨(sq _ _ _ _ (by simp)).trans h.c0.1,by simpa using h.c0.2⟩,⟨CX _ _ _ (by rw[h.c1.1];rfl),by simpa using h.c1.2⟩,⟨(sq _ _ _ _ (by simp)).trans h.c2.1,by simpa using h.c2.2⟩,⟨(sq _ _ _ _ (by simp)).trans h.c3.1,by simpa using h.c3.2⟩,⟨(sq _ _ _ _ (by simp)).trans h.c4.1,by simpa using h.c4.2⟩,⟨(sq _ _ _ _ (by simp)).trans h.c5.1,by simpa using h.c5.2⟩⟩
theorem DBox.set2 (h:DBox w b f c l g j i)(v:ZC):DBox (w.setCell (Q b 2 U) v) b f c v g j i :=
 ⟨by simpa using h.lt,⟨(sq _ _ _ _ (by simp)).trans h.c0.1,by simpa using h.c0.2⟩,⟨(sq _ _ _ _ (by simp)).trans h.c1.1,by simpa using h.c1.2⟩,⟨CX _ _ _ (by rw[h.c2.1];rfl),by simpa using h.c2.2⟩,⟨(sq _ _ _ _ (by simp)).trans h.c3.1,by simpa using h.c3.2⟩,⟨(sq _ _ _ _ (by simp)).trans h.c4.1,by simpa using h.c4.2⟩,⟨(sq _ _ _ _ (by simp)).trans h.c5.1,by simpa using h.c5.2⟩⟩
theorem DBox.set3 (h:DBox w b f c g l j i)(v:ZC):DBox (w.setCell (Q b 3 U) v) b f c g v j i :=
 ⟨by simpa using h.lt,⟨(sq _ _ _ _ (by simp)).trans h.c0.1,by simpa using h.c0.2⟩,⟨(sq _ _ _ _ (by simp)).trans h.c1.1,by simpa using h.c1.2⟩,⟨(sq _ _ _ _ (by simp)).trans h.c2.1,by simpa using h.c2.2⟩,⟨CX _ _ _ (by rw[h.c3.1];rfl),by simpa using h.c3.2⟩,⟨(sq _ _ _ _ (by simp)).trans h.c4.1,by simpa using h.c4.2⟩,⟨(sq _ _ _ _ (by simp)).trans h.c5.1,by simpa using h.c5.2⟩⟩
theorem DBox.set4 (h:DBox w b f c g i l j)(v:ZC):DBox (w.setCell (Q b 4 U) v) b f c g i v j :=
 ⟨by simpa using h.lt,⟨(sq _ _ _ _ (by simp)).trans h.c0.1,by simpa using h.c0.2⟩,⟨(sq _ _ _ _ (by simp)).trans h.c1.1,by simpa using h.c1.2⟩,⟨(sq _ _ _ _ (by simp)).trans h.c2.1,by simpa using h.c2.2⟩,⟨(sq _ _ _ _ (by simp)).trans h.c3.1,by simpa using h.c3.2⟩,⟨CX _ _ _ (by rw[h.c4.1];rfl),by simpa using h.c4.2⟩,⟨(sq _ _ _ _ (by simp)).trans h.c5.1,by simpa using h.c5.2⟩⟩
theorem DBox.set5 (h:DBox w b f c g i j l)(v:ZC):DBox (w.setCell (Q b 5 U) v) b f c g i j v :=
 ⟨by simpa using h.lt,⟨(sq _ _ _ _ (by simp)).trans h.c0.1,by simpa using h.c0.2⟩,⟨(sq _ _ _ _ (by simp)).trans h.c1.1,by simpa using h.c1.2⟩,⟨(sq _ _ _ _ (by simp)).trans h.c2.1,by simpa using h.c2.2⟩,⟨(sq _ _ _ _ (by simp)).trans h.c3.1,by simpa using h.c3.2⟩,⟨(sq _ _ _ _ (by simp)).trans h.c4.1,by simpa using h.c4.2⟩,⟨CX _ _ _ (by rw[h.c5.1];rfl),by simpa using h.c5.2⟩⟩
theorem oN (w:M)(f c b g i h:ZC)(t:ZH):DBox (w.alloc (N #[f,c,b,g,i,h] t)) w.heap.size f c b g i h:=by refine⟨by simp,?_,?_,?_,?_,?_,?_⟩<;>simp
theorem DJ (b off m c:Nat)(g:Nat->Deed)(t:ByteArray)(w:M)(hmm:(m:Int)<=1048576)(l:RowDeed w b off m g):Calls Pg 62 #[.agg #[Z (T (Q b off U)) m c],Y t] w λe s=>e=ZF (J I (jO g t m))/\Below w.heap.size w s:=by
 obtain⟨W,f⟩:∃W:M,w.alloc (N #[Z (T (Q b off U)) m c] 37)=W:=⟨_,rfl⟩
 obtain⟨q,-,-⟩:=nb1 f;have h:=ae f;clear f;have u:=ae (l.aa q ly);have k0:A W (Q w.heap.size 0 U)=T (Z (T (Q b off U)) m c):=by rw[<-h.out];simp
 clear l;go_enter func62,ntmps62;go_wp2;rw[h.out];clear h;go_loop [5] (λi=>∃k:Nat,k<=m/\i=J I k/\Hid (∀j,j<k->(!((g j).e.toList == t.toList))=ZG)) (λi=>m - (intOf i).toNat);case atStart=>exact⟨0,by omega,rfl,λj r=>absurd r (PK _)⟩
 case round =>
  obtain⟨k,hk,rfl,p⟩:=hrel;by_cases n:k<m
  ·obtain⟨c0,_⟩:=u.2 k n;cases hb:((g k).e.toList == t.toList) with
   |true =>have o:=ae hb;go_wp2;go_ret;refine⟨?_,q⟩;rw[jO,fP n (by rw[o.out];rfl) p.out];rfl
   |false =>
    have o:=ae hb;go_wp2;refine⟨⟨k+1,by omega,by go_num,λj r=>?_⟩,by simp[intOf];omega⟩;by_cases e:j=k;{subst e;rw[o.out];rfl};{exact p j (by omega)}
  ·have e:k=m:=by omega
   subst e;go_wp2;go_ret;refine⟨?_,q⟩;rw[jO,fD p.out];rfl
theorem DK (a:Option Addr)(c:Nat)(g:Nat->Deed)(t:ByteArray)(w:M):Calls Pg 62 #[.agg #[Z a 0 c],Y t] w λe f=>e=ZF (J I (jO g t 0))/\Below w.heap.size w f:=by
 have b:=ae ((q9 w).alloc ly (N #[Z a 0 c] 37));have h:(w.alloc (N #[Z a 0 c] 37)).cell? (Q w.heap.size 0 U)=T (Z a 0 c):=by simp
 go_enter func62,ntmps62;go_wp2;generalize World.alloc w _=W at b h ⊢;go_loop [5] (λi=>i=J I 0) (λ_=>0);case atStart=>rfl
 case round =>subst hrel;go_wp2;go_ret;exact⟨rfl,b⟩
theorem DO (a:Option Addr)(m c:Nat)(g:Nat->Deed)(t:ByteArray)(w:M)(f:(m:Int)<=1048576)(j:SlDeed w a m g):Calls Pg 62 #[.agg #[Z a m c],Y t] w λe h=>e=ZF (J I (jO g t m))/\Below w.heap.size w h:=by
 by_cases hz:m=0;{subst hz;exact DK a c g t w};{obtain⟨b,off,rfl,i⟩:=j.resolve_left hz;exact DJ b off m c g t w f i}
open Go.Sort
abbrev eB (a b:ByteArray):Bool:=Op.bytesLess a.toList b.toList
def cI (g:Nat->ByteArray)(n:Nat)(t:ByteArray):Bool:=(List.range n).any λi=>(g i).toList == t.toList
theorem rV (g:Nat->ByteArray)(t:ByteArray):cI g 0 t=ZA:=rfl
def dG (p:Nat->Bool):Nat->Bool
 |0=>ZA
 |k+1=>dG p k || p k
theorem lP{p:Nat->Bool}{k:Nat}(h:k<n)(c:p k=ZG):dG p n=ZG:=by
 induction n with
 |zero=>omega
 |succ m b =>
  by_cases e:k=m;{subst e;simp[dG,c]};{simp[dG,b (by omega)]}
def pN (x:Source):Bool:=decide (2000<(x.B.size:Int))
def eZ (x:Target):Bool:=!valid x.H x.f
abbrev nm0 (f0:Nat->Source):Nat->ByteArray:=λi=>(f0 i).e
abbrev nm1 (f1:Nat->Target):Nat->ByteArray:=λi=>(f1 i).e
def ce (n0:Nat)(f0:Nat->Source)(n1:Nat)(f1:Nat->Target):Int :=
 if 200<n0+n1 then 1 else if dN (nm0 f0) n0=ZA then 2 else if dN (nm1 f1) n1=ZA then 2 else if dR (nm0 f0) n0=ZA then 3 else if dR (nm1 f1) n1=ZA then 4
 else if dG (λi=>cI (nm1 f1) n1 (nm0 f0 i)) n0=ZG then 5 else if dG (λi=>pN (f0 i)) n0=ZG then 6 else if dG (λi=>eZ (f1 i)) n1=ZG then 7 else 0
theorem ke (g:Nat->ByteArray)(k:Nat)(t:ByteArray):cI g (k+1) t=(cI g k t || ((g k).toList == t.toList)):=by simp[cI,OQ]
theorem mQ{g:Nat->ByteArray}{k:Nat}{t:ByteArray}(h:k<n)(b:((g k).toList == t.toList)=ZG):cI g n t=ZG:=by simp only[cI,List.any_eq_true,PE];exact⟨k,h,b⟩
theorem uf (a0:Option Addr)(n0 c0 b off n1 c1:Nat)(f1:Nat->Target)(t:ByteArray)(w:M)(hn1:(n1:Int)<=1048576)(h:RowTarget w b off n1 f1):Calls Pg 52 #[.agg #[Z a0 n0 c0,Z (T (Q b off U)) n1 c1],Y t] w λe o=>∃r:Int,e=ZF (J I r)/\decide (0<=r)=cI (nm1 f1) n1 t/\Below w.heap.size w o:=by
 obtain⟨W,c⟩:∃W:M,w.alloc (N #[Z a0 n0 c0,Z (T (Q b off U)) n1 c1] 27)=W:=⟨_,rfl⟩
 obtain⟨l,-,-⟩:=nb1 c;have f:=ae c;clear c;have p:=ae (h.aa l ly);have k1:A W (Q w.heap.size 1 U)=T (Z (T (Q b off U)) n1 c1):=by rw[<-f.out];simp
 clear h;go_enter func52,ntmps52;go_wp2;rw[f.out];clear f;go_loop [5] (λi=>∃k:Nat,k<=n1/\i=J I k/\Hid (cI (nm1 f1) k t=ZA)) (λi=>n1 - (intOf i).toNat);case atStart=>exact⟨0,by omega,rfl,rfl⟩
 case round =>
  obtain⟨k,hk,rfl,n⟩:=hrel;by_cases j:k<n1
  ·obtain⟨d0,ka,kc,d1,_⟩:=p.2 k j;cases hb:((f1 k).e.toList == t.toList) with
   |true =>have m:=ae hb;go_wp2;go_ret;exact⟨k,rfl,by rw[mQ (g:=nm1 f1) j m.out];simp,l.out⟩
   |false =>have m:=ae hb;go_wp2;exact⟨⟨k+1,by omega,by go_num,by show cI (nm1 f1) (k+1) t=ZA;rw[ke,n.out];exact m⟩,by simp[intOf];omega⟩
  ·have e:k=n1:=by omega
   subst e;go_wp2;go_ret;exact⟨-1,rfl,by rw[n.out];rfl,l⟩
theorem oO{a b:ByteArray}(h:a.toList=b.toList):a=b:=by rw[BG,BG] at h;exact N5 (Array.toList_inj.1 h)
theorem bytes_beq{a b:ByteArray}(h:(a.toList == b.toList)=ZG):a=b:=oO (by simpa using h)
theorem AJ{n0:Nat}{f0:Nat->Source}{n1:Nat}{f1:Nat->Target}(h:ce n0 f0 n1 f1=0):dR (nm0 f0) n0=ZG/\dR (nm1 f1) n1=ZG/\n0+n1<=200:=by
 unfold ce at h;split at h;· omega
 split at h;· omega
 split at h;· omega
 split at h;· omega
 split at h;· omega
 rename_i h0 _ _ h3 h4;exact⟨by simpa using h3,by simpa using h4,by omega⟩
theorem slS{a:Option Addr}{f:Nat->Source}(h:SlSource w a n f)(hn:n≠0):∃b off,a=T (Q b off U)/\RowSource w b off n f:=h.resolve_left hn
theorem slT{a:Option Addr}{f:Nat->Target}(h:SlTarget w a n f)(hn:n≠0):∃b off,a=T (Q b off U)/\RowTarget w b off n f:=h.resolve_left hn
theorem bx2{W b:M}{u v:ZC}(z:w.heap.size<W.heap.size)(f:A W (Q w.heap.size 0 U)=T u)(g:A W (Q w.heap.size 1 U)=T v)(ZR:Hid (Below w.heap.size w W))(c:Below W.heap.size W b):A b (Q w.heap.size 0 U)=T u/\A b (Q w.heap.size 1 U)=T v/\w.heap.size<b.heap.size/\Hid (Below w.heap.size w b) :=
 ⟨(c.cell (p:=(Q w.heap.size 0 U)) z).trans f,(c.cell (p:=(Q w.heap.size 1 U)) z).trans g,lj z c.size,ZR.trans (c.mono ZR.size)⟩
theorem ug (a0:Option Addr)(n0 c0:Nat)(a1:Option Addr)(c1:Nat)(g:Nat->ByteArray)(t:ByteArray)(w:M):Calls Pg 52 #[.agg #[Z a0 n0 c0,Z a1 0 c1],Y t] w λe b=>∃r:Int,e=ZF (J I r)/\decide (0<=r)=cI g 0 t/\Below w.heap.size w b:=by
 have c:=ae ((q9 w).alloc ly (N #[Z a0 n0 c0,Z a1 0 c1] 27));go_enter func52,ntmps52;go_wp2;go_loop [5] (λi=>i=J I 0) (λ_=>0);case atStart=>rfl
 case round =>subst hrel;go_wp2;go_ret;exact⟨-1,rfl,by rw[rV];rfl,c⟩
theorem mR (a0:Option Addr)(n0 c0:Nat)(a1:Option Addr)(n1 c1:Nat)(f1:Nat->Target)(t:ByteArray)(w:M)(hn1:(n1:Int)<=1048576)(c:SlTarget w a1 n1 f1):Calls Pg 52 #[.agg #[Z a0 n0 c0,Z a1 n1 c1],Y t] w λe f=>∃r:Int,e=ZF (J I r)/\decide (0<=r)=cI (nm1 f1) n1 t/\Below w.heap.size w f:=by
 rcases c with rfl|⟨b,off,rfl,g⟩
 {exact ug a0 n0 c0 a1 c1 (nm1 f1) t w};{exact uf a0 n0 c0 b off n1 c1 f1 t w hn1 g}
theorem fB (a0:Option Addr)(n0 c0:Nat)(f0:Nat->Source)(a1:Option Addr)(n1 c1:Nat)(f1:Nat->Target)(w:M)(hn0:(n0:Int)<=1048576)(hn1:(n1:Int)<=1048576)(la:SlSource w a0 n0 f0)(ld:SlTarget w a1 n1 f1)(dg:∀i,i<n1->cT (f1 i))(hs:∀i,i<n1->∀j,j<(f1 i).f->((f1 i).H j).s.size<=maxLen):Calls Pg 49 #[.agg #[Z a0 n0 c0,Z a1 n1 c1]] w λe w'=>e=ZF (J I (ce n0 f0 n1 f1))/\Below w.heap.size w w':=by
 have V0:=ae la;have W:=ae ld;have HF:=ae dg;have HS:=ae hs;clear la ld dg hs;obtain⟨C,hC⟩:∃C,C=ce n0 f0 n1 f1:=⟨_,rfl⟩
 rw[<-hC];unfold ce at hC;have HC:=ae hC;clear hC;have A0:=ae ((q9 w).alloc ly (N #[Z a0 n0 c0,Z a1 n1 c1] 27));have G:(w.alloc (N #[Z a0 n0 c0,Z a1 n1 c1] 27)).cell? (Q w.heap.size 0 U)=T (Z a0 n0 c0):=by simp
 have ZP:(w.alloc (N #[Z a0 n0 c0,Z a1 n1 c1] 27)).cell? (Q w.heap.size 1 U)=T (Z a1 n1 c1):=by simp
 have z0:w.heap.size<(w.alloc (N #[Z a0 n0 c0,Z a1 n1 c1] 27)).heap.size:=by simp
 go_enter func49,ntmps49;by_cases h1:(200:Int)<n0+n1;{have c:=HC.out;rw[p6 (by omega)] at c;subst c;go_wp2;go_ret;exact⟨rfl,A0⟩};have ZJ:=HC.out;rw[gM (by omega)] at ZJ;have fd:=ae ZJ;clear ZJ HC;go_wp2;generalize World.alloc w _=W0 at A0 G ZP z0 ⊢;go_loopw [5] (λi wr=>∃k:Nat,k<=n0/\i=J I k/\Hid (dN (nm0 f0) k=ZG)/\Below W0.heap.size W0 wr) (λi _=>n0 - (intOf i).toNat);case atStart=>exact⟨0,by omega,rfl,rfl,dB _ _⟩
 case round =>
  obtain⟨k,P,rfl,n,m⟩:=hrel;obtain⟨ZQ,z,z1,A1⟩:=bx2 z0 G ZP A0 m;have o:=ae m;clear m;by_cases f:k<n0
  ·obtain⟨b,off,rfl,h⟩:=slS V0 (by omega);obtain⟨x,u⟩:=(h.2 k f).aa A1 h.1;clear h G ZP;go_wp2_with fail;refine(dc _ _).mono ?_;rintro e w1 ⟨rfl,q⟩;have t:=ae (o.trans (q.mono o.size));clear q;cases l:aw (f0 k).e with
   |true =>have p:=ae l;clear l;go_wp2;exact⟨⟨k+1,by omega,by go_num,by show dN (nm0 f0) (k+1)=ZG;simp[dN,n.out,p.out],t.out⟩,by simp[intOf];omega⟩
   |false =>have p:=ae l;have c:=fd.out;rw[p6 (mI (g:=(nm0 f0)) f p.out)] at c;subst c;clear l;go_wp2;go_ret;exact⟨rfl,A0.trans (t.mono A0.size)⟩
  ·have e:n0=k:=by omega
   subst e;have c:=fd.out;rw[gM (by simp[n.out])] at c;have ZK:=ae c;clear c fd n o G ZP;go_wp2;generalize wr=W1 at ZQ z z1 A1 ⊢;go_loopw [6] (λi wr=>∃k:Nat,k<=n1/\i=J I k/\Hid (dN (nm1 f1) k=ZG)/\Below W1.heap.size W1 wr) (λi _=>n1 - (intOf i).toNat);case atStart=>exact⟨0,by omega,rfl,rfl,dB _ _⟩
   case round =>
    obtain⟨k,P,rfl,n,m⟩:=hrel;obtain⟨K,L,z2,ZM⟩:=bx2 z1 ZQ z A1 m;have o:=ae m;clear m;by_cases f:k<n1
    ·obtain⟨b,off,rfl,h⟩:=slT W (by omega);obtain⟨x,ka,kc,u,_⟩:=(h.2 k f).aa ZM ly h.1;clear h ZQ z;go_wp2_with fail;refine(dc _ _).mono ?_;rintro e w1 ⟨rfl,q⟩;have t:=ae (o.trans (q.mono o.size));clear q;cases l:aw (f1 k).e with
     |true =>have p:=ae l;clear l;go_wp2;exact⟨⟨k+1,by omega,by go_num,by show dN (nm1 f1) (k+1)=ZG;simp[dN,n.out,p.out],t.out⟩,by simp[intOf];omega⟩
     |false =>have p:=ae l;have c:=ZK.out;rw[p6 (mI (g:=(nm1 f1)) f p.out)] at c;subst c;clear l;go_wp2;go_ret;exact⟨rfl,A1.trans (t.mono A1.size)⟩
    ·have e:n1=k:=by omega
     subst e;have c:=ZK.out;rw[gM (by simp[n.out])] at c;have bt:=ae c;clear c ZK n o ZQ z;go_wp2;generalize wr=W2 at K L z2 ZM ⊢;go_loopw [7] (λi wr=>∃k:Nat,(k+1<=n0∨k=0)/\i=J I ((k:Int)+1)/\Hid (dR (nm0 f0) (k+1)=ZG)/\Below W2.heap.size W2 wr) (λi _=>n0+1 - (intOf i).toNat);case atStart=>exact⟨0,.inr rfl,rfl,rfl,dB _ _⟩
     case round =>
      obtain⟨k,P,rfl,n,m⟩:=hrel;obtain⟨ZR,H,z3,ZO⟩:=bx2 z2 K L ZM m;have o:=ae m;clear m;by_cases f:k+1<n0
      ·obtain⟨b,off,rfl,h⟩:=slS V0 (by omega);obtain⟨x,u⟩:=(h.2 k (by omega)).aa ZO h.1;obtain⟨e0,e1⟩:=(h.2 (k+1) f).aa ZO h.1;have mv:(k:Int)+1<n0:=by omega
       clear h K L;go_wp2_with fail;go_quiet (fail);have t:=ae (BM o nq);clear x u e0 e1;generalize wr.drewN nq=X at t ⊢;cases l:Op.bytesLess (f0 k).e.toList (f0 (k+1)).e.toList with
       |true =>have p:=ae l;clear l;go_wp2;exact⟨⟨k+1,.inl (by omega),by go_num,by show dR (nm0 f0) (k+2)=ZG;simp[dR,n.out,p.out],t.out⟩,by simp[intOf];omega⟩
       |false =>have p:=ae l;have c:=bt.out;rw[p6 (og (g:=(nm0 f0)) f p.out)] at c;subst c;clear l;go_wp2;go_ret;exact⟨rfl,ZM.trans (t.mono ZM.size)⟩
      ·have n9:¬ (k:Int)+1<n0:=by omega
       have c:=bt.out;rw[gM (by simp[lO (show n0<=k+1 by omega) n.out])] at c;have aq:=ae c;clear c bt n o K L;go_wp2;generalize wr=W3 at ZR H z3 ZO ⊢;go_loopw [8] (λi wr=>∃k:Nat,(k+1<=n1∨k=0)/\i=J I ((k:Int)+1)/\Hid (dR (nm1 f1) (k+1)=ZG)/\Below W3.heap.size W3 wr) (λi _=>n1+1 - (intOf i).toNat);case atStart=>exact⟨0,.inr rfl,rfl,rfl,dB _ _⟩
       case round =>
        obtain⟨k,P,rfl,n,m⟩:=hrel;obtain⟨F,D,z4,O⟩:=bx2 z3 ZR H ZO m;have o:=ae m;clear m;by_cases f:k+1<n1
        ·obtain⟨b,off,rfl,h⟩:=slT W (by omega);obtain⟨x,ka,kc,u,_⟩:=(h.2 k (by omega)).aa O ly h.1;obtain⟨e0,kb,kd,e1,_⟩:=(h.2 (k+1) f).aa O ly h.1;have mv:(k:Int)+1<n1:=by omega
         clear h ZR H;go_wp2_with fail;go_quiet (fail);have t:=ae (BM o nq);clear x u e0 e1;generalize wr.drewN nq=X at t ⊢;cases l:Op.bytesLess (f1 k).e.toList (f1 (k+1)).e.toList with
         |true =>have p:=ae l;clear l;go_wp2;exact⟨⟨k+1,.inl (by omega),by go_num,by show dR (nm1 f1) (k+2)=ZG;simp[dR,n.out,p.out],t.out⟩,by simp[intOf];omega⟩
         |false =>have p:=ae l;have c:=aq.out;rw[p6 (og (g:=(nm1 f1)) f p.out)] at c;subst c;clear l;go_wp2;go_ret;exact⟨rfl,ZO.trans (t.mono ZO.size)⟩
        ·have n9:¬ (k:Int)+1<n1:=by omega
         have c:=aq.out;rw[gM (by simp[lO (show n1<=k+1 by omega) n.out])] at c;have S:=ae c;clear c aq n o ZR H;go_wp2;generalize wr=W4 at F D z4 O ⊢;go_loopw [9] (λi wr=>∃k:Nat,k<=n0/\i=J I k/\Hid (dG (λi=>cI (nm1 f1) n1 (nm0 f0 i)) k=ZA)/\Below W4.heap.size W4 wr) (λi _=>n0 - (intOf i).toNat);case atStart=>exact⟨0,by omega,rfl,rfl,dB _ _⟩
         case round =>
          obtain⟨k,P,rfl,n,m⟩:=hrel;obtain⟨ZN,B,z5,y⟩:=bx2 z4 F D O m;have o:=ae m;clear m;by_cases f:k<n0
          ·obtain⟨b,off,rfl,h⟩:=slS V0 (by omega);obtain⟨x,u⟩:=(h.2 k f).aa y h.1;clear h F D;go_wp2_with fail;go_region_with (go_at_call 52;refine(mR (T (Q b off U)) n0 c0 a1 n1 c1 f1 (f0 k).e _ hn1 ?_).mono ?_;(first|exact W.aa y ly|exact W.aa y.drew ly);rintro e w1 ⟨r,rfl,hd,q⟩;have HD:=ae hd;clear hd;have t:Hid (Below wr.heap.size wr w1):=⟨q.os,q.tape,q.output,q.size,q.block⟩;clear q);all_goals
            have B2:=ae (o.trans (t.mono o.size));clear x u t;by_cases l:0<=r
            ·have c:=S.out
             rw[p6 (lP f (by have:=HD.out;rw[decide_eq_true l] at this;exact this.symm))] at c;subst c;go_wp2;go_ret;exact⟨rfl,O.trans (B2.mono O.size)⟩
            ·have p:=ae l
             go_wp2;exact⟨⟨k+1,by omega,by go_num,by show dG _ (k+1)=ZA;have:=HD.out;rw[decide_eq_false p.out] at this;simp[dG,n.out,<-this],B2.out⟩,by simp[intOf];omega⟩
          ·have e:n0=k:=by omega
           subst e;have c:=S.out;rw[gM (by simp[n.out])] at c;have ZI:=ae c;clear c S n o F D;go_wp2;generalize wr=W5 at ZN B z5 y ⊢;go_loopw [10] (λi wr=>∃k:Nat,k<=n0/\i=J I k/\Hid (dG (λi=>pN (f0 i)) k=ZA)/\Below W5.heap.size W5 wr) (λi _=>n0 - (intOf i).toNat);case atStart=>exact⟨0,by omega,rfl,rfl,dB _ _⟩
           case round =>
            obtain⟨k,P,rfl,n,m⟩:=hrel;obtain⟨V,R,z6,ZL⟩:=bx2 z5 ZN B y m;have o:=ae m;clear m;by_cases f:k<n0;{obtain⟨b,off,rfl,h⟩:=slS V0 (by omega);obtain⟨x,u⟩:=(h.2 k f).aa ZL h.1;clear h ZN B;by_cases l:(2000:Int)<(f0 k).B.size;{have c:=ZI.out;rw[p6 (lP f (by simpa[pN] using l))] at c;subst c;go_wp2;go_ret;exact⟨rfl,y.trans (o.mono y.size)⟩};{have p:Hid (pN (f0 k)=ZA):=decide_eq_false l;go_wp2;exact⟨⟨k+1,by omega,by go_num,by show dG _ (k+1)=ZA;simp[dG,n.out,p.out],o.out⟩,by simp[intOf];omega⟩}}
            ·have e:n0=k:=by omega
             subst e;have c:=ZI.out;rw[gM (by simp[n.out])] at c;have ph:=ae c;clear c ZI n o ZN B;go_wp2;generalize wr=W6 at V R z6 ZL ⊢;go_loopw [11,4] (λi v wr=>∃(k:Nat) (r:Int),k<=n1/\i=J I k/\v=J I r/\Hid (r=if dG (λi=>eZ (f1 i)) k=ZG then 7 else 0)/\Below W6.heap.size W6 wr) (λi _ _=>n1 - (intOf i).toNat);case atStart=>exact⟨0,0,by omega,rfl,rfl,rfl,dB _ _⟩
             case round =>
              obtain⟨k,r,P,rfl,rfl,n,m⟩:=hrel;obtain⟨k70,k71,z7,A7⟩:=bx2 z6 V R ZL m;have o:=ae m;clear m;by_cases f:k<n1
              ·obtain⟨b,off,rfl,h⟩:=slT W (by omega);obtain⟨x,ka,kc,u,hx⟩:=(h.2 k f).aa A7 ly h.1;have HX:=ae hx;clear h hx V R;go_wp2_with fail;refine(jM ka (f1 k).f kc (f1 k).H _ (HF k f) HX (HS k f)).mono ?_;rintro e w1 ⟨rfl,q⟩;have t:=ae (o.trans (q.mono o.size));clear q x u;cases l:valid (f1 k).H (f1 k).f with
               |true =>
                have p:=ae l;clear l;have E:Hid (dG (λi=>eZ (f1 i)) (k+1)=dG (λi=>eZ (f1 i)) k):=by show(dG _ k || eZ (f1 k))=_;rw[show eZ (f1 k)=ZA by unfold eZ;rw[p.out];rfl,Bool.or_false]
                go_wp2;exact⟨⟨k+1,r,by omega,by go_num,rfl,by show r=_;rw[E.out];exact n,t⟩,by simp[intOf];omega⟩
               |false =>
                have p:=ae l;clear l;have E:Hid (dG (λi=>eZ (f1 i)) (k+1)=ZG):=by show(dG _ k || eZ (f1 k))=_;rw[show eZ (f1 k)=ZG by unfold eZ;rw[p.out];rfl,Bool.or_true]
                go_wp2;exact⟨⟨k+1,7,by omega,by go_num,rfl,by show(7:Int)=_;rw[p6 E.out],t.out⟩,by simp[intOf];omega⟩
              ·have e:n1=k:=by omega
               subst e;have c:=ph.out;rw[<-n.out] at c;subst c;go_wp2;go_ret;exact⟨rfl,ZL.trans (o.mono ZL.size)⟩
