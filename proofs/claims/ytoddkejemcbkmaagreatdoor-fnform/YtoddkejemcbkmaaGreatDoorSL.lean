import Derived.Test.YtoddkejemcbkmaaGreatDoorSD
import Derived.OneCell
import Derived.OwnWalk
import Derived.Maps.AppendAt
import Derived.Deep.RegionLaw
set_option maxRecDepth 100000
set_option maxHeartbeats 4000000
open Go renaming Addr.mk->Q,Value.slice->Z,Value.string->U,Value.int->J,Obj.cells->N,IntKind.i64->I,World->M,Value->ZC,TypeId->ZH,Ending.returned->ZF
open Option renaming none->Y,some->T
open Bool renaming false->ZA,true->ZG
namespace Go.Proofs.YtoddkejemcbkmaaGreatDoor.Vp
open Tryz
variable {w:M}{b n B size:Nat}{g l i j c f:ZC}{P:Program}{o:Oper}{a:Act}{ZM:Exit->Act->M->Prop}{e:ZH}{K:Act->M->Prop}{E:Prop}
theorem aA{A:Array Oper}(ZO:o.guard=Y)(s x:Operand)(t:ZH)
  (ZL:o.op=.call { callee:=.builtin .append,args:=#[s,x],argTypes:=#[t,t] })
  (b:Nat) (e:ZH) (i:TypeInfo) (z:ZC) (size f:Nat) (ZQ:P.underlying t=T (.slice e)) (hi:P.info? e=T i) (hz:i.zero=T z)
  (r:i.size=size) (F:i.bytes=f) (ZP:z.cells.size=size) (G:0<size)
  (v:ZC) (n:Nat) (B:List ZC) (S:a.eval s=v) (C:w.ownsRow b e size v n B)
  (D:Addr) (m c:Nat) (news:List ZC) (R:a.eval x=Z (T D) m c) (L:news.length=m*size) (y:∀j u,news[j]?=T u->w.cell? (D.add j)=T u) (h1:∀u∈news,u.oneCell'=ZG)
  (H:n+m<=maxLen) (l:(n+m)*f<=140737488355328) (q:b<=w.heap.size)
  (h:∀g p,p.ownsRow b e size g (n+m) (B++news)->w.grownBy p v.ownBlock->(g.ownBlock=v.ownBlock∨g.ownBlock=T w.heap.size)->K (a.put o.dst g) p) :
  if Region.wanted o (yielded A a.tmps)=ZG then Oper.wp P o a w K ZM else E:=by
 have O:Region.wanted o (yielded A a.tmps)=ZG:=by simp[Region.wanted,ZO]
 rw[p7 O];obtain⟨g,p,ZN,h2,h3,h4,ZK⟩:=run_append_own_at (P:=P) w b t o.type e i z size f ZQ hi hz r F ZP G v n B C D m c news L y h1 H l q;unfold Oper.wp execOp;simp only[ZL,resolve,invoke,builtin,UO,UR,RB,RY,MX,MZ,S,R,ZN];exact h g p h2 h3 ZK
theorem bD (w:M){A:Array Oper}{rest:List Oper}(ZO:o.guard=Y)(s x:Operand)(t:ZH)
  (R:o.op=.call { callee:=.builtin .append,args:=#[s,x],argTypes:=#[t,t] })
  (f:Nat) (e:ZH) (i:TypeInfo) (z:ZC) (size b:Nat) (L:P.underlying t=T (.slice e)) (hi:P.info? e=T i) (hz:i.zero=T z)
  (r:i.size=size) (E:i.bytes=b) (ZP:z.cells.size=size) (G:0<size)
  (v:ZC) (n:Nat) (B:List ZC) (O:a.eval s=v) (C:w.ownsRow f e size v n B)
  (D:Addr) (m c:Nat) (news:List ZC) (ZN:a.eval x=Z (T D) m c) (K:news.length=m*size) (y:∀j u,news[j]?=T u->w.cell? (D.add j)=T u) (h1:∀u∈news,u.oneCell'=ZG)
  (H:n+m<=maxLen) (l:(n+m)*b<=140737488355328) (q:f<=w.heap.size)
  (h:∀g p,p.ownsRow f e size g (n+m) (B++news)->w.grownBy p v.ownBlock->(g.ownBlock=v.ownBlock∨g.ownBlock=T w.heap.size)->wpList P A ZM rest (a.put o.dst g) p) :
  wpList P A ZM (o::rest) a w:=by
 refine wpList_plain ZO λK' F=>?_;obtain⟨g,p,ZQ,h2,h3,h4,S⟩:=run_append_own_at (P:=P) w f t o.type e i z size b L hi hz r E ZP G v n B C D m c news K y h1 H l q;unfold Oper.wp execOp;simp only[R,resolve,invoke,builtin,UO,UR,RB,RY,MX,MZ,O,ZN,ZQ];exact F _ _ (h g p h2 h3 S)
open RowKit
def dM (g:Nat->ByteArray):Nat->Bool
 |0=>ZG
 |k+1=>dM g k && aw (g k)
theorem tp{g:Nat->ByteArray}{k:Nat}(h:k<=n)(hn:dM g n=ZG):dM g k=ZG:=by
 induction n with
 |zero =>
  obtain rfl:k=0:=by omega
  exact hn
 |succ m b =>
  by_cases e:k=m+1;{subst e;exact hn};{simp only[dM,zA] at hn;exact b (by omega) hn.1}
theorem mu{g:Nat->ByteArray}{k:Nat}(h:k<n)(b:aw (g k)=ZA):dM g n=ZA:=by
 cases e:dM g n with
 |false=>rfl
 |true =>have h2:=tp (show k+1<=n by omega) e;simp[dM,b] at h2
def dQ (g:Nat->ByteArray):Nat->Bool
 |0=>ZG
 |1=>ZG
 |k+2=>dQ g (k+1) && Op.bytesLess (g k).toList (g (k+1)).toList
theorem lE{g:Nat->ByteArray}{k:Nat}(h:k<=n)(hn:dQ g n=ZG):dQ g k=ZG:=by
 induction n with
 |zero =>
  obtain rfl:k=0:=by omega
  exact hn
 |succ m b =>
  by_cases e:k=m+1;{subst e;exact hn}
  ·cases m with
   |zero =>
    obtain rfl:k=0:=by omega
    rfl
   |succ j =>simp only[dQ,zA] at hn;exact b (by omega) hn.1
theorem nP{g:Nat->ByteArray}{k:Nat}(h:k+1<n)(b:Op.bytesLess (g k).toList (g (k+1)).toList=ZA):dQ g n=ZA:=by
 cases e:dQ g n with
 |false=>rfl
 |true =>have h2:=lE (show k+2<=n by omega) e;simp[dQ,b] at h2
theorem ci (w:M)(x:ZC)(t:ZH):∀j u,[x][j]?=T u->(w.alloc (N #[x] t)).cell? (((Q w.heap.size 0 Y):Addr).add j)=T u:=by
 intro j u b;match j,b with
 |0,b=>simp at b;subst b;simp[Addr.add]
theorem eF{r:Array Oper}(ZO:o.guard=Y)(s x:Operand)(t:ZH)
  (S:o.op=.call { callee:=.builtin .append,args:=#[s,x],argTypes:=#[t,t] })
  (b:Nat) (e:ZH) (i:TypeInfo) (z:ZC) (size f:Nat) (ZQ:P.underlying t=T (.slice e)) (hi:P.info? e=T i) (hz:i.zero=T z)
  (p:i.size=size) (F:i.bytes=f) (ZP:z.cells.size=size) (G:0<size)
  (v:ZC) (n:Nat) (y:List ZC) (R:a.eval s=v) (A:w.ownsRow b e size v n y)
  (C:Addr) (m c:Nat) (news:List ZC) (O:a.eval x=Z (T C) m c) (L:news.length=m*size) (q:∀j u,news[j]?=T u->w.cell? (C.add j)=T u) (h1:∀u∈news,u.oneCell'=ZG)
  (H:n+m<=maxLen) (g:(n+m)*f<=140737488355328) (l:b<=w.heap.size)
  (h:∀D B,B.ownsRow b e size D (n+m) (y++news)->w.grownBy B v.ownBlock->(D=Z Y 0 0 ↔ v=Z Y 0 0/\m=0)->K (a.put o.dst D) B) :
  if Region.wanted o (yielded r a.tmps)=ZG then Oper.wp P o a w K ZM else E:=by
 have ZN:Region.wanted o (yielded r a.tmps)=ZG:=by simp[Region.wanted,ZO]
 rw[p7 ZN];exact wp_append_own w s x t S b e i z size f ZQ hi hz p F ZP G v n y R A C m c news O L q h1 H g l h
theorem own_below{f:M}{v:ZC}{c:List ZC}(h:w.ownsRow b e size v n c)(hb:Below B w f)(i:w.heap.size<=B):f.ownsRow b e size v n c :=
 h.kept (row:=Y) ⟨hb.os,hb.tape,hb.output,hb.size,λk g _=>hb.block k (lj g i)⟩ (by cases v.ownBlock<;>simp)
theorem aC{base':Nat}{v:ZC}{c:List ZC}(h:w.ownsRow b e size v n c)(hb:base'<=b):w.ownsRow base' e size v n c:=by
 refine⟨h.1,?_⟩;rcases h.2 with h|⟨g,cap,f,j,i,r⟩
 {exact .inl h};{exact .inr ⟨g,cap,f,j,p9 hb i,r⟩}
theorem jb (W:M)(b:Array ZC)(ty:ZH)(g j:Nat)(v:ZC)(c:g=W.heap.size)(f:b[j]?=T v):(W.alloc (N b ty)).cell? (Q g j Y)=T v:=by subst c;simp[f]
theorem dl{v:ZC}{c:List ZC}(h:w.ownsRow b e 1 v n c)(hn:0<n):∃g cap,v=Z (T (Q g 0 Y)) n cap:=by
 rcases h.2 with ⟨_,h0⟩|⟨g,cap,cur,f,_⟩
 {omega};{exact⟨g,cap,f⟩}
def dc (f:Nat->Deed)(n:Nat):Bool:=decide ((eN f n).1=0)
theorem fN{f:Nat->Deed}(h:dc f n=ZG):1<=n/\n<=400/\aM (be f) n=-1:=by
 have h1:(eN f n).1=0:=OH h;unfold eN at h1;split at h1;{simp at h1};{rename_i h2;refine⟨by omega,by omega,?_⟩;split at h1;{simp at h1};{rename_i h3;exact Classical.byContradiction λb=>h3 b}}
def ft:Deed:={ e:=⟨#[]⟩,E:=0,B:=0,h:=⟨#[]⟩,f:=0,G:=λ_=>⟨0,⟨#[]⟩,0⟩,b:=0,m:=λ_=>⟨⟨#[]⟩,ZA,ZA,0⟩ }
def dF (L:List Deed)(i:Nat):Deed:=L.getD i ft
def jD (f:Nat->Deed)(t:ByteArray)(n:Nat):Int:=aM (λi=>!((f i).e.toList == t.toList)) n
structure DBox (w:M)(b:Nat)(v0 v1 v2 v3 v4 v5:ZC):Prop where
 lt:b<w.heap.size
 c0:w.cell? (Q b 0 Y)=T v0/\w.frozen? (Q b 0 Y)=ZA
 c1:w.cell? (Q b 1 Y)=T v1/\w.frozen? (Q b 1 Y)=ZA
 c2:w.cell? (Q b 2 Y)=T v2/\w.frozen? (Q b 2 Y)=ZA
 c3:w.cell? (Q b 3 Y)=T v3/\w.frozen? (Q b 3 Y)=ZA
 c4:w.cell? (Q b 4 Y)=T v4/\w.frozen? (Q b 4 Y)=ZA
 c5:w.cell? (Q b 5 Y)=T v5/\w.frozen? (Q b 5 Y)=ZA
theorem DBox.ab{w':M}{n m:ZC}(h:DBox w b g n l i j m)(hz:w.heap.size<=w'.heap.size)(e:w'.heap[b]?=w.heap[b]?):DBox w' b g n l i j m :=
 have c:∀o,w'.cell? (Q b o Y)=w.cell? (Q b o Y):=λo=>cq (a:=(Q b o Y)) e;have f:∀o,w'.frozen? (Q b o Y)=w.frozen? (Q b o Y):=λo=>JN (a:=(Q b o Y)) e
 ⟨lj h.lt hz,⟨(c 0).trans h.c0.1,(f 0).trans h.c0.2⟩,⟨(c 1).trans h.c1.1,(f 1).trans h.c1.2⟩,⟨(c 2).trans h.c2.1,(f 2).trans h.c2.2⟩,⟨(c 3).trans h.c3.1,(f 3).trans h.c3.2⟩,⟨(c 4).trans h.c4.1,(f 4).trans h.c4.2⟩,⟨(c 5).trans h.c5.1,(f 5).trans h.c5.2⟩⟩
theorem DBox.aa{m:M}(h:DBox w b c l i f g j)(hb:Below B w m)(n:b<B):DBox m b c l i f g j:=h.ab hb.size (hb.block b n)
theorem DBox.far (h:DBox w b c l i f g j){p:Addr}(m:p.block≠b)(v:ZC):DBox (w.setCell p v) b c l i f g j:=h.ab (by simp) (qh _ _ _ _ (λe=>m e.symm))
theorem DBox.set1 (h:DBox w b c l i f g j)(v:ZC):DBox (w.setCell (Q b 1 Y) v) b c v i f g j :=
 ⟨by simpa using h.lt,⟨(sq _ _ _ _ (by simp)).trans h.c0.1,by simpa using h.c0.2⟩,⟨DN _ _ _ (by rw[h.c1.1];rfl),by simpa using h.c1.2⟩,⟨(sq _ _ _ _ (by simp)).trans h.c2.1,by simpa using h.c2.2⟩,⟨(sq _ _ _ _ (by simp)).trans h.c3.1,by simpa using h.c3.2⟩,⟨(sq _ _ _ _ (by simp)).trans h.c4.1,by simpa using h.c4.2⟩,⟨(sq _ _ _ _ (by simp)).trans h.c5.1,by simpa using h.c5.2⟩⟩
theorem DBox.set2 (h:DBox w b c j l f g i)(v:ZC):DBox (w.setCell (Q b 2 Y) v) b c j v f g i :=
 ⟨by simpa using h.lt,⟨(sq _ _ _ _ (by simp)).trans h.c0.1,by simpa using h.c0.2⟩,⟨(sq _ _ _ _ (by simp)).trans h.c1.1,by simpa using h.c1.2⟩,⟨DN _ _ _ (by rw[h.c2.1];rfl),by simpa using h.c2.2⟩,⟨(sq _ _ _ _ (by simp)).trans h.c3.1,by simpa using h.c3.2⟩,⟨(sq _ _ _ _ (by simp)).trans h.c4.1,by simpa using h.c4.2⟩,⟨(sq _ _ _ _ (by simp)).trans h.c5.1,by simpa using h.c5.2⟩⟩
theorem DBox.set3 (h:DBox w b c j g l f i)(v:ZC):DBox (w.setCell (Q b 3 Y) v) b c j g v f i :=
 ⟨by simpa using h.lt,⟨(sq _ _ _ _ (by simp)).trans h.c0.1,by simpa using h.c0.2⟩,⟨(sq _ _ _ _ (by simp)).trans h.c1.1,by simpa using h.c1.2⟩,⟨(sq _ _ _ _ (by simp)).trans h.c2.1,by simpa using h.c2.2⟩,⟨DN _ _ _ (by rw[h.c3.1];rfl),by simpa using h.c3.2⟩,⟨(sq _ _ _ _ (by simp)).trans h.c4.1,by simpa using h.c4.2⟩,⟨(sq _ _ _ _ (by simp)).trans h.c5.1,by simpa using h.c5.2⟩⟩
theorem DBox.set4 (h:DBox w b c j g f l i)(v:ZC):DBox (w.setCell (Q b 4 Y) v) b c j g f v i :=
 ⟨by simpa using h.lt,⟨(sq _ _ _ _ (by simp)).trans h.c0.1,by simpa using h.c0.2⟩,⟨(sq _ _ _ _ (by simp)).trans h.c1.1,by simpa using h.c1.2⟩,⟨(sq _ _ _ _ (by simp)).trans h.c2.1,by simpa using h.c2.2⟩,⟨(sq _ _ _ _ (by simp)).trans h.c3.1,by simpa using h.c3.2⟩,⟨DN _ _ _ (by rw[h.c4.1];rfl),by simpa using h.c4.2⟩,⟨(sq _ _ _ _ (by simp)).trans h.c5.1,by simpa using h.c5.2⟩⟩
theorem DBox.set5 (h:DBox w b c j i f g l)(v:ZC):DBox (w.setCell (Q b 5 Y) v) b c j i f g v :=
 ⟨by simpa using h.lt,⟨(sq _ _ _ _ (by simp)).trans h.c0.1,by simpa using h.c0.2⟩,⟨(sq _ _ _ _ (by simp)).trans h.c1.1,by simpa using h.c1.2⟩,⟨(sq _ _ _ _ (by simp)).trans h.c2.1,by simpa using h.c2.2⟩,⟨(sq _ _ _ _ (by simp)).trans h.c3.1,by simpa using h.c3.2⟩,⟨(sq _ _ _ _ (by simp)).trans h.c4.1,by simpa using h.c4.2⟩,⟨DN _ _ _ (by rw[h.c5.1];rfl),by simpa using h.c5.2⟩⟩
theorem oz (w:M)(b i f g c h:ZC)(t:ZH):DBox (w.alloc (N #[b,i,f,g,c,h] t)) w.heap.size b i f g c h:=by refine⟨by simp,?_,?_,?_,?_,?_,?_⟩<;>simp
theorem Cs (b off m c:Nat)(g:Nat->Deed)(t:ByteArray)(w:M)(hmm:(m:Int)<=1048576)(f:RowDeed w b off m g):Calls Tryz.prog 118 #[.agg #[Z (T (Q b off Y)) m c],U t] w λe u=>e=ZF (J I (jD g t m))/\Below w.heap.size w u:=by
 obtain⟨W,h⟩:∃W:M,w.alloc (N #[Z (T (Q b off Y)) m c] 25)=W:=⟨_,rfl⟩
 obtain⟨q,-,-⟩:=nb1 h;have l:=ae h;clear h;have s:=ae (f.aa q ly);have k0:W.cell? (Q w.heap.size 0 Y)=T (Z (T (Q b off Y)) m c):=by rw[<-l.out];simp
 clear f;go_enter func118,ntmps118;go_wp2;rw[l.out];clear l;go_loop [5] (λi=>∃k:Nat,k<=m/\i=J I k/\Hid (∀j,j<k->(!((g j).e.toList == t.toList))=ZG)) (λi=>m - (intOf i).toNat);case atStart=>exact⟨0,by omega,rfl,λj r=>absurd r (NV _)⟩
 case round =>
  obtain⟨k,hk,rfl,p⟩:=hrel;by_cases n:k<m
  ·obtain⟨c0,_⟩:=s.2 k n;cases hb:((g k).e.toList == t.toList) with
   |true =>have o:=ae hb;go_wp2;go_ret;refine⟨?_,q⟩;rw[jD,fK n (by rw[o.out];rfl) p.out];rfl
   |false =>
    have o:=ae hb;go_wp2;refine⟨⟨k+1,by omega,by go_num,λj r=>?_⟩,by simp[intOf];omega⟩;by_cases e:j=k;{subst e;rw[o.out];rfl};{exact p j (by omega)}
  ·have e:k=m:=by omega
   subst e;go_wp2;go_ret;refine⟨?_,q⟩;rw[jD,fw p.out];rfl
theorem Ct (a:Option Addr)(c:Nat)(g:Nat->Deed)(t:ByteArray)(w:M):Calls Tryz.prog 118 #[.agg #[Z a 0 c],U t] w λe h=>e=ZF (J I (jD g t 0))/\Below w.heap.size w h:=by
 have b:=ae ((q9 w).alloc ly (N #[Z a 0 c] 25));have f:(w.alloc (N #[Z a 0 c] 25)).cell? (Q w.heap.size 0 Y)=T (Z a 0 c):=by simp
 go_enter func118,ntmps118;go_wp2;generalize World.alloc w _=W at b f ⊢;go_loop [5] (λi=>i=J I 0) (λ_=>0);case atStart=>rfl
 case round =>subst hrel;go_wp2;go_ret;exact⟨rfl,b⟩
theorem Cu (a:Option Addr)(m c:Nat)(g:Nat->Deed)(t:ByteArray)(w:M)(f:(m:Int)<=1048576)(i:SlDeed w a m g):Calls Tryz.prog 118 #[.agg #[Z a m c],U t] w λe j=>e=ZF (J I (jD g t m))/\Below w.heap.size w j:=by
 by_cases hz:m=0;{subst hz;exact Ct a c g t w};{obtain⟨b,off,rfl,h⟩:=i.resolve_left hz;exact Cs b off m c g t w f h}
