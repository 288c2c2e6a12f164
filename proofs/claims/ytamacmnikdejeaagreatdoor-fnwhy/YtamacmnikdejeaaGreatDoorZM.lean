import Derived.Test.YtamacmnikdejeaaGreatDoorZE
import Derived.OneCell
import Derived.OwnWalk
import Derived.Maps.AppendAt
import Derived.Deep.RegionLaw
set_option maxRecDepth 100000
set_option maxHeartbeats 4000000
open Go.Addr renaming mk->T
open Go.Value renaming slice->Y,string->U,int->I,agg->QV
open Option renaming none->Z,some->N
open Go.Obj renaming cells->Q
open Go.IntKind renaming i64->J
open Go renaming World->H,Value->QS
open Bool renaming false->QQ,true->QR
open Go.Ending renaming returned->QU
namespace Go.Proofs.YtamacmnikdejeaaGreatDoor.Vp
theorem bI {P:Program}{w:H}{A:Array Oper}{o:Oper}{a:Act}{K:Act->H->Prop}{Q0:Exit->Act->H->Prop}{E:Prop}(M:o.guard=Z)(s x:Operand)(t:TypeId)
  (QZ:o.op=.call { callee:=.builtin .append,args:=#[s,x],argTypes:=#[t,t] })
  (b:Nat) (e:TypeId) (i:TypeInfo) (z:QS) (size f:Nat) (R:P.underlying t=N (.slice e)) (hi:P.info? e=N i) (hz:i.zero=N z)
  (q:i.size=size) (F:i.bytes=f) (ZA:z.cells.size=size) (G:0<size)
  (v:QS) (n:Nat) (D:List QS) (Q9:a.eval s=v) (B:w.ownsRow b e size v n D)
  (C:Addr) (m c:Nat) (news:List QS) (L:a.eval x=Y (N C) m c) (QY:news.length=m*size) (r:∀ j u,news[j]?=N u->w.cell? (C.add j)=N u) (h1:∀ u∈news,u.oneCell'=QR)
  (ZB:n+m<=maxLen) (p:(n+m)*f<=140737488355328) (y:b<=w.heap.size)
  (h:∀ g l,l.ownsRow b e size g (n+m) (D++news)->w.grownBy l v.ownBlock->(g.ownBlock=v.ownBlock∨g.ownBlock=N w.heap.size)->K (a.put o.dst g) l) :
  if Region.wanted o (yielded A a.tmps)=QR then Oper.wp P o a w K Q0 else E:=by
 have V:Region.wanted o (yielded A a.tmps)=QR:=by simp[Region.wanted,M]
 rw[gA V];obtain⟨g,l,O,h2,S,h4,Q2⟩:=run_append_own_at (P:=P) w b t o.type e i z size f R hi hz q F ZA G v n D B C m c news QY r h1 ZB p y;unfold Oper.wp execOp;simp only[QZ,resolve,invoke,builtin,Sem.run_bind,Sem.run_pure,Result.andThen_ok,List.map_toArray,NV,QF,Q9,L,O];exact h g l h2 S Q2
theorem bv {P:Program}(w:H){A:Array Oper}{rest:List Oper}{o:Oper}{a:Act}{Q0:Exit->Act->H->Prop}(L:o.guard=Z)(s x:Operand)(t:TypeId)
  (M:o.op=.call { callee:=.builtin .append,args:=#[s,x],argTypes:=#[t,t] })
  (b:Nat) (e:TypeId) (i:TypeInfo) (z:QS) (size f:Nat) (O:P.underlying t=N (.slice e)) (hi:P.info? e=N i) (hz:i.zero=N z)
  (q:i.size=size) (F:i.bytes=f) (ZA:z.cells.size=size) (G:0<size)
  (v:QS) (n:Nat) (D:List QS) (Q9:a.eval s=v) (B:w.ownsRow b e size v n D)
  (C:Addr) (m c:Nat) (news:List QS) (K:a.eval x=Y (N C) m c) (Q2:news.length=m*size) (r:∀ j u,news[j]?=N u->w.cell? (C.add j)=N u) (h1:∀ u∈news,u.oneCell'=QR)
  (ZB:n+m<=maxLen) (p:(n+m)*f<=140737488355328) (y:b<=w.heap.size)
  (h:∀ g l,l.ownsRow b e size g (n+m) (D++news)->w.grownBy l v.ownBlock->(g.ownBlock=v.ownBlock∨g.ownBlock=N w.heap.size)->wpList P A Q0 rest (a.put o.dst g) l) :
  wpList P A Q0 (o :: rest) a w:=by
 refine OP L fun K' E=>?_;obtain⟨g,l,QZ,h2,R,h4,S⟩:=run_append_own_at (P:=P) w b t o.type e i z size f O hi hz q F ZA G v n D B C m c news Q2 r h1 ZB p y;unfold Oper.wp execOp;simp only[M,resolve,invoke,builtin,Sem.run_bind,Sem.run_pure,Result.andThen_ok,List.map_toArray,NV,QF,Q9,K,QZ];exact E _ _ (h g l h2 R S)
end Go.Proofs.YtamacmnikdejeaaGreatDoor.Vp
namespace Go.Proofs.YtamacmnikdejeaaGreatDoor.Vp
open RowKit
def cE (g:Nat->ByteArray):Nat->Bool
 | 0=>QR
 | k+1=>cE g k && av (g k)
theorem sO {g:Nat->ByteArray}{k n:Nat}(h:k<=n)(hn:cE g n=QR):cE g k=QR:=by
 induction n with
 | zero =>
  obtain rfl:k=0:=by omega
  exact hn
 | succ m b =>
  by_cases e:k=m+1
  ·subst e;exact hn
  ·simp only[cE,gB] at hn
   exact b (by omega) hn.1
theorem mC {g:Nat->ByteArray}{k n:Nat}(h:k<n)(b:av (g k)=QQ):cE g n=QQ:=by
 cases e:cE g n with
 | false=>rfl
 | true =>have h2:=sO (show k+1<=n by omega) e;simp[cE,b] at h2
def bQ (g:Nat->ByteArray):Nat->Bool
 | 0=>QR
 | 1=>QR
 | k+2=>bQ g (k+1) && Op.bytesLess (g k).toList (g (k+1)).toList
theorem gL {g:Nat->ByteArray}{k n:Nat}(h:k<=n)(hn:bQ g n=QR):bQ g k=QR:=by
 induction n with
 | zero =>
  obtain rfl:k=0:=by omega
  exact hn
 | succ m b =>
  by_cases e:k=m+1
  ·subst e;exact hn
  ·cases m with
   | zero =>
    obtain rfl:k=0:=by omega
    rfl
   | succ j =>simp only[bQ,gB] at hn;exact b (by omega) hn.1
theorem nQ {g:Nat->ByteArray}{k n:Nat}(h:k+1<n)(b:Op.bytesLess (g k).toList (g (k+1)).toList=QQ):bQ g n=QQ:=by
 cases e:bQ g n with
 | false=>rfl
 | true =>have h2:=gL (show k+2<=n by omega) e;simp[bQ,b] at h2
theorem dW (w:H)(x:QS)(t:TypeId):∀ j u,[x][j]?=N u->(w.alloc (Q #[x] t)).cell? (((T w.heap.size 0 Z):Addr).add j)=N u:=by
 intro j u b;match j,b with
 | 0,b=>simp at b;subst b;simp[Addr.add]
theorem dn {P:Program}{w:H}{r:Array Oper}{o:Oper}{a:Act}{K:Act->H->Prop}{Q0:Exit->Act->H->Prop}{E:Prop}(M:o.guard=Z)(s x:Operand)(t:TypeId)
  (QZ:o.op=.call { callee:=.builtin .append,args:=#[s,x],argTypes:=#[t,t] })
  (b:Nat) (e:TypeId) (i:TypeInfo) (z:QS) (size f:Nat) (O:P.underlying t=N (.slice e)) (hi:P.info? e=N i) (hz:i.zero=N z)
  (l:i.size=size) (F:i.bytes=f) (ZA:z.cells.size=size) (G:0<size)
  (v:QS) (n:Nat) (D:List QS) (Q9:a.eval s=v) (y:w.ownsRow b e size v n D)
  (C:Addr) (m c:Nat) (news:List QS) (L:a.eval x=Y (N C) m c) (R:news.length=m*size) (p:∀ j u,news[j]?=N u->w.cell? (C.add j)=N u) (h1:∀ u∈news,u.oneCell'=QR)
  (ZB:n+m<=maxLen) (g:(n+m)*f<=140737488355328) (q:b<=w.heap.size)
  (h:∀ A B,B.ownsRow b e size A (n+m) (D++news)->w.grownBy B v.ownBlock->(A=Y Z 0 0 ↔ v=Y Z 0 0/\m=0)->K (a.put o.dst A) B) :
  if Region.wanted o (yielded r a.tmps)=QR then Oper.wp P o a w K Q0 else E:=by
 have S:Region.wanted o (yielded r a.tmps)=QR:=by simp[Region.wanted,M]
 rw[gA S];exact wp_append_own w s x t QZ b e i z size f O hi hz l F ZA G v n D Q9 y C m c news L R p h1 ZB g q h
theorem own_below {w c:H}{b B:Nat}{e:TypeId}{size n:Nat}{v:QS}{f:List QS}(h:w.ownsRow b e size v n f)(hb:Below B w c)(i:w.heap.size<=B):c.ownsRow b e size v n f :=
 h.kept (row:=Z) ⟨hb.os,hb.tape,hb.output,hb.size,fun k g _=>hb.block k (lj g i)⟩ (by cases v.ownBlock<;>simp)
theorem aE {w:H}{b base':Nat}{e:TypeId}{size n:Nat}{v:QS}{f:List QS}(h:w.ownsRow b e size v n f)(hb:base'<=b):w.ownsRow base' e size v n f:=by
 refine⟨h.1,?_⟩;rcases h.2 with h | ⟨g,cap,c,i,j,r⟩
 ·exact .inl h
 ·exact .inr ⟨g,cap,c,i,j4 hb j,r⟩
theorem mH (W:H)(b:Array QS)(ty:TypeId)(g j:Nat)(v:QS)(f:g=W.heap.size)(c:b[j]?=N v):(W.alloc (Q b ty)).cell? (T g j Z)=N v:=by subst f;simp[c]
theorem gv {w:H}{b n:Nat}{e:TypeId}{v:QS}{f:List QS}(h:w.ownsRow b e 1 v n f)(hn:0<n):∃ g cap,v=Y (N (T g 0 Z)) n cap:=by
 rcases h.2 with ⟨_,h0⟩ | ⟨g,cap,cur,c,_⟩
 ·omega
 ·exact⟨g,cap,c⟩
theorem vU (w:H)(e:TypeId)(size:Nat):(w.alloc (Q #[] e)).ownsRow w.heap.size e size (Y (N (T w.heap.size 0 Z)) 0 0) 0 [] :=
 ⟨by simp,.inr ⟨w.heap.size,0,#[],rfl,j5 _,cM w _,j5 _,by unfold maxLen;omega,by simp,by simp⟩⟩
def aZ (f:Nat->aj)(n:Nat):Bool:=decide ((dH f n).1=0)
theorem dX {f:Nat->aj}{n:Nat}(h:aZ f n=QR):1<=n/\n<=400/\aK (bi f) n=-1:=by
 have h1:(dH f n).1=0:=J8 h;unfold dH at h1;split at h1
 ·simp at h1
 ·rename_i h2
  refine⟨by omega,by omega,?_⟩;split at h1
  ·simp at h1
  ·rename_i b
   exact KI fun c=>b c
theorem cZ {f:Nat->aj}{n:Nat}(h:aZ f n=QR):∀ p,p<n->(f p).linksN<=200:=by
 intro p b;have h1:=dM (dX h).2.2 p b;simp only[bi,gB,kindOk] at h1;obtain⟨_,h2⟩:=h1;split at h2
 ·simp[aP] at h2
  omega
 ·split at h2
  ·simp[aP] at h2
   omega
  ·split at h2
   ·simp[ci] at h2
    omega
   ·simp at h2
theorem mI {f:Nat->aj}{n:Nat}(h:aZ f n=QR):∀ p,p<n->∀ j,j<(f p).linksN->((f p).links j).ask=QR->0<=((f p).links j).at_/\((f p).links j).at_.toNat<p/\(f ((f p).links j).at_.toNat).name.toList=((f p).links j).name.toList:=by
 intro p l j m c;have h1:=dM (dX h).2.2 p l;simp only[bi,gB,kindOk] at h1;obtain⟨_,h2⟩:=h1;have o:bS f p (f p) (f p).linksN=QR:=by
  split at h2
  ·simp[aP] at h2
   omega
  ·split at h2
   ·simp[aP] at h2
    omega
   ·split at h2
    ·simp only[ci,gB] at h2
     exact h2.2
    ·simp at h2
 have b:=lp o j m;simp only[ee,c,QE,gB,kP,NY] at b;obtain⟨_,⟨⟨_,g⟩,h5⟩,i⟩:=b;exact⟨g,by omega,i⟩
theorem pj {f:Nat->aj}{p n:Nat}(h:aW f p n=QR):∀ i,i<n->(f i).name.toList≠(f p).name.toList:=by
 induction n with
 | zero=>intro i hi;omega
 | succ n b =>
  simp only[aW,gB,Bool.not_eq_true',QB] at h;intro i hi;by_cases e:i=n
  ·subst e;exact h.2
  ·exact b h.1 i (by omega)
theorem jS {f:Nat->aj}{n:Nat}(h:aZ f n=QR):∀ i j,i<n->j<n->(f i).name.toList=(f j).name.toList->i=j:=by
 have h1:(dH f n).1=0:=J8 h;have h2:aK (fun p=>aW f p p) n=-1:=by
  unfold dH at h1;split at h1
  ·simp at h1
  ·split at h1
   ·simp at h1
   ·split at h1
    ·simp at h1
    ·rename_i c
     exact KI fun g=>c g
 have c:=dM h2;intro i j hi l e;rcases Nat.lt_trichotomy i j with b | rfl | b
 ·exact absurd e (pj (c j l) i b)
 ·rfl
 ·exact absurd e.symm (pj (c i hi) j b)
def fq:aj:={ name:=⟨#[]⟩,kind:=0,code:=0,text:=⟨#[]⟩,actN:=0,act:=fun _=>⟨0,⟨#[]⟩,0⟩,linksN:=0,links:=fun _=>⟨⟨#[]⟩,QQ,QQ,0⟩ }
def dF (L:List aj)(i:Nat):aj:=L.getD i fq
def jx (f:Nat->aj)(t:ByteArray)(n:Nat):Int:=aK (fun i=>!((f i).name.toList == t.toList)) n
structure DBox (w:H)(b:Nat)(v0 v1 v2 v3 v4 v5:QS):Prop where
 lt:b<w.heap.size
 c0:w.cell? (T b 0 Z)=N v0/\w.frozen? (T b 0 Z)=QQ
 c1:w.cell? (T b 1 Z)=N v1/\w.frozen? (T b 1 Z)=QQ
 c2:w.cell? (T b 2 Z)=N v2/\w.frozen? (T b 2 Z)=QQ
 c3:w.cell? (T b 3 Z)=N v3/\w.frozen? (T b 3 Z)=QQ
 c4:w.cell? (T b 4 Z)=N v4/\w.frozen? (T b 4 Z)=QQ
 c5:w.cell? (T b 5 Z)=N v5/\w.frozen? (T b 5 Z)=QQ
theorem DBox.blk {w w':H}{b:Nat}{l m j i g n:QS}(h:DBox w b l m j i g n)(hz:w.heap.size<=w'.heap.size)(e:w'.heap[b]?=w.heap[b]?):DBox w' b l m j i g n :=
 have c:∀ o,w'.cell? (T b o Z)=w.cell? (T b o Z):=fun o=>cj (a:=(T b o Z)) e;have f:∀ o,w'.frozen? (T b o Z)=w.frozen? (T b o Z):=fun o=>JW (a:=(T b o Z)) e
 ⟨lj h.lt hz,⟨(c 0).trans h.c0.1,(f 0).trans h.c0.2⟩,⟨(c 1).trans h.c1.1,(f 1).trans h.c1.2⟩,⟨(c 2).trans h.c2.1,(f 2).trans h.c2.2⟩,⟨(c 3).trans h.c3.1,(f 3).trans h.c3.2⟩,⟨(c 4).trans h.c4.1,(f 4).trans h.c4.2⟩,⟨(c 5).trans h.c5.1,(f 5).trans h.c5.2⟩⟩
theorem DBox.below {w i:H}{b B:Nat}{j l g f c m:QS}(h:DBox w b j l g f c m)(hb:Below B w i)(n:b<B):DBox i b j l g f c m:=h.blk hb.size (hb.block b n)
theorem DBox.far {w:H}{b:Nat}{i j g f c l:QS}(h:DBox w b i j g f c l){p:Addr}(m:p.block≠b)(v:QS):DBox (w.setCell p v) b i j g f c l:=h.blk (by simp) (qh _ _ _ _ (fun e=>m e.symm))
theorem DBox.set1 {w:H}{b:Nat}{i l g f c j:QS}(h:DBox w b i l g f c j)(v:QS):DBox (w.setCell (T b 1 Z) v) b i v g f c j :=
 ⟨by simpa using h.lt,⟨(sq _ _ _ _ (by simp)).trans h.c0.1,by simpa using h.c0.2⟩,⟨p7 _ _ _ (by rw[h.c1.1];rfl),by simpa using h.c1.2⟩,⟨(sq _ _ _ _ (by simp)).trans h.c2.1,by simpa using h.c2.2⟩,⟨(sq _ _ _ _ (by simp)).trans h.c3.1,by simpa using h.c3.2⟩,⟨(sq _ _ _ _ (by simp)).trans h.c4.1,by simpa using h.c4.2⟩,⟨(sq _ _ _ _ (by simp)).trans h.c5.1,by simpa using h.c5.2⟩⟩
theorem DBox.set2 {w:H}{b:Nat}{g i l f c j:QS}(h:DBox w b g i l f c j)(v:QS):DBox (w.setCell (T b 2 Z) v) b g i v f c j :=
 ⟨by simpa using h.lt,⟨(sq _ _ _ _ (by simp)).trans h.c0.1,by simpa using h.c0.2⟩,⟨(sq _ _ _ _ (by simp)).trans h.c1.1,by simpa using h.c1.2⟩,⟨p7 _ _ _ (by rw[h.c2.1];rfl),by simpa using h.c2.2⟩,⟨(sq _ _ _ _ (by simp)).trans h.c3.1,by simpa using h.c3.2⟩,⟨(sq _ _ _ _ (by simp)).trans h.c4.1,by simpa using h.c4.2⟩,⟨(sq _ _ _ _ (by simp)).trans h.c5.1,by simpa using h.c5.2⟩⟩
theorem DBox.set3 {w:H}{b:Nat}{g i f l c j:QS}(h:DBox w b g i f l c j)(v:QS):DBox (w.setCell (T b 3 Z) v) b g i f v c j :=
 ⟨by simpa using h.lt,⟨(sq _ _ _ _ (by simp)).trans h.c0.1,by simpa using h.c0.2⟩,⟨(sq _ _ _ _ (by simp)).trans h.c1.1,by simpa using h.c1.2⟩,⟨(sq _ _ _ _ (by simp)).trans h.c2.1,by simpa using h.c2.2⟩,⟨p7 _ _ _ (by rw[h.c3.1];rfl),by simpa using h.c3.2⟩,⟨(sq _ _ _ _ (by simp)).trans h.c4.1,by simpa using h.c4.2⟩,⟨(sq _ _ _ _ (by simp)).trans h.c5.1,by simpa using h.c5.2⟩⟩
theorem DBox.set4 {w:H}{b:Nat}{g i f c l j:QS}(h:DBox w b g i f c l j)(v:QS):DBox (w.setCell (T b 4 Z) v) b g i f c v j :=
 ⟨by simpa using h.lt,⟨(sq _ _ _ _ (by simp)).trans h.c0.1,by simpa using h.c0.2⟩,⟨(sq _ _ _ _ (by simp)).trans h.c1.1,by simpa using h.c1.2⟩,⟨(sq _ _ _ _ (by simp)).trans h.c2.1,by simpa using h.c2.2⟩,⟨(sq _ _ _ _ (by simp)).trans h.c3.1,by simpa using h.c3.2⟩,⟨p7 _ _ _ (by rw[h.c4.1];rfl),by simpa using h.c4.2⟩,⟨(sq _ _ _ _ (by simp)).trans h.c5.1,by simpa using h.c5.2⟩⟩
theorem DBox.set5 {w:H}{b:Nat}{i j g f c l:QS}(h:DBox w b i j g f c l)(v:QS):DBox (w.setCell (T b 5 Z) v) b i j g f c v :=
 ⟨by simpa using h.lt,⟨(sq _ _ _ _ (by simp)).trans h.c0.1,by simpa using h.c0.2⟩,⟨(sq _ _ _ _ (by simp)).trans h.c1.1,by simpa using h.c1.2⟩,⟨(sq _ _ _ _ (by simp)).trans h.c2.1,by simpa using h.c2.2⟩,⟨(sq _ _ _ _ (by simp)).trans h.c3.1,by simpa using h.c3.2⟩,⟨(sq _ _ _ _ (by simp)).trans h.c4.1,by simpa using h.c4.2⟩,⟨p7 _ _ _ (by rw[h.c5.1];rfl),by simpa using h.c5.2⟩⟩
theorem oz (w:H)(f g c b i h:QS)(t:TypeId):DBox (w.alloc (Q #[f,g,c,b,i,h] t)) w.heap.size f g c b i h:=by refine⟨by simp,?_,?_,?_,?_,?_,?_⟩<;>simp
theorem AR (b off m c:Nat)(g:Nat->aj)(t:ByteArray)(w:H)(hmm:(m:Int)<=1048576)(f:RowDeed w b off m g):Calls Tryz.prog 93 #[QV #[Y (N (T b off Z)) m c],U t] w fun e s=>e=QU (I J (jx g t m))/\Below w.heap.size w s:=by
 have h:=ae ((q9 w).alloc ly (Q #[Y (N (T b off Z)) m c] 25));have p:=ae (f.below h ly);have r:(w.alloc (Q #[Y (N (T b off Z)) m c] 25)).cell? (T w.heap.size 0 Z)=N (Y (N (T b off Z)) m c):=by simp
 clear f;go_enter Tryz.func93,Tryz.ntmps93;go_wp2;generalize w.alloc (Q #[Y (N (T b off Z)) m c] 25)=W at h p r ⊢;go_loop [5] (fun i=>∃ k:Nat,k<=m/\i=I J k/\Hid (∀ j,j<k->(!((g j).name.toList == t.toList))=QR)) (fun i=>m - (intOf i).toNat);case atStart=>exact⟨0,by omega,rfl,fun j q=>absurd q (JP _)⟩
 case round =>
  obtain⟨k,hk,rfl,o⟩:=hrel;by_cases l:k<m
  ·obtain⟨c0,_⟩:=p.2 k l
   cases hb:((g k).name.toList == t.toList) with
   | true =>have n:=ae hb;go_wp2;go_ret;refine⟨?_,h⟩;rw[jx,fM l (by rw[n.out];rfl) o.out];rfl
   | false =>
    have n:=ae hb;go_wp2;refine⟨⟨k+1,by omega,by go_num,fun j q=>?_⟩,by simp[intOf];omega⟩;by_cases e:j=k
    ·subst e;rw[n.out];rfl
    ·exact o j (by omega)
  ·have e:k=m:=by omega
   subst e;go_wp2;go_ret;refine⟨?_,h⟩;rw[jx,ep o.out];rfl
theorem AU (a:Option Addr)(c:Nat)(g:Nat->aj)(t:ByteArray)(w:H):Calls Tryz.prog 93 #[QV #[Y a 0 c],U t] w fun e h=>e=QU (I J (jx g t 0))/\Below w.heap.size w h:=by
 have b:=ae ((q9 w).alloc ly (Q #[Y a 0 c] 25));have f:(w.alloc (Q #[Y a 0 c] 25)).cell? (T w.heap.size 0 Z)=N (Y a 0 c):=by simp
 go_enter Tryz.func93,Tryz.ntmps93;go_wp2;generalize w.alloc (Q #[Y a 0 c] 25)=W at b f ⊢;go_loop [5] (fun i=>i=I J 0) (fun _=>0);case atStart=>rfl
 case round =>subst hrel;go_wp2;go_ret;exact⟨rfl,b⟩
theorem AV (a:Option Addr)(m c:Nat)(g:Nat->aj)(t:ByteArray)(w:H)(f:(m:Int)<=1048576)(h:SlDeed w a m g):Calls Tryz.prog 93 #[QV #[Y a m c],U t] w fun e j=>e=QU (I J (jx g t m))/\Below w.heap.size w j:=by
 by_cases hz:m=0
 ·subst hz
  exact AU a c g t w
 ·obtain⟨b,off,rfl,i⟩:=h.resolve_left hz
  exact AR b off m c g t w f i
end Go.Proofs.YtamacmnikdejeaaGreatDoor.Vp
