import Derived.Test.YtamacmnikdejeaaGreatDoorSD
import Derived.OneCell
import Derived.OwnWalk
import Derived.Maps.AppendAt
import Derived.Deep.RegionLaw
set_option maxRecDepth 100000
set_option maxHeartbeats 4000000
set_option linter.unusedSimpArgs false
open Go.Addr renaming mk->N
open Go.Value renaming slice->Y,string->U,int->J,bool->QC,agg->QG
open Option renaming none->Z,some->T
open Go.Obj renaming cells->Q
open Go.IntKind renaming i64->I
open Go renaming World->G,Value->QE
open Bool renaming false->QB,true->QD
open Go.Ending renaming returned->QF
namespace Go.Proofs.YtamacmnikdejeaaGreatDoor.Vp
open RowKit
def bM (g:Nat->ByteArray):Nat->Bool
 | 0=>QD
 | k+1=>bM g k && au (g k)
theorem rY {g:Nat->ByteArray}{k n:Nat}(h:k<=n)(hn:bM g n=QD):bM g k=QD:=by
 induction n with
 | zero =>
  obtain rfl:k=0:=by omega
  exact hn
 | succ m b =>
  by_cases e:k=m+1
  ·subst e;exact hn
  ·simp only[bM,j4] at hn
   exact b (by omega) hn.1
theorem iq {g:Nat->ByteArray}{k n:Nat}(h:k<n)(b:au (g k)=QB):bM g n=QB:=by
 cases e:bM g n with
 | false=>rfl
 | true =>have h2:=rY (show k+1<=n by omega) e;simp[bM,b] at h2
theorem vX (a0 a1:Option Addr)(n0 c0 n1 c1:Nat)(w:G)(h0:(n0:Int)<=1048576)(h1:(n1:Int)<=1048576):Calls Tryz.prog 106 #[QG #[Y a0 n0 c0,Y a1 n1 c1]] w fun e b=>e=QF (J I ((n0:Int)+n1))/\Below w.heap.size w b:=by go_enter Tryz.func106,Tryz.ntmps106;go_wp2;go_ret;exact⟨rfl,br.alloc ly _⟩
theorem rZ (b off n cap:Nat)(g:Nat->ByteArray)(w:G)(hn:(n:Int)<=1048576)(m:RowStr w b off n g):Calls Tryz.prog 109 #[Y (T (N b off Z)) n cap] w fun e s=>e=QF (QC (bM g n))/\Below w.heap.size w s:=by
 have r:=ae m;clear m;go_enter Tryz.func109,Tryz.ntmps109;go_wp2;go_loopw [7] (fun i wr=>∃ k:Nat,k<=n/\i=J I k/\Hid (bM g k=QD)/\Below w.heap.size w wr) (fun i _=>n - (intOf i).toNat);case atStart=>exact⟨0,by omega,rfl,rfl,a8 _ _⟩
 case round =>
  obtain⟨k,hk,rfl,p,q⟩:=hrel;have f:=ae q;clear q;by_cases h:k<n
  ·have c0:=(r.below f ly).2 k h
   go_wp2_with fail;refine(fu _ _).mono ?_;rintro e w1 ⟨rfl,j⟩;have o:=ae (f.trans (j.mono f.size));clear j;cases hq:au (g k) with
   | true =>have l:=ae hq;clear hq;go_wp2;exact⟨⟨k+1,by omega,by go_num,by show bM g (k+1)=QD;simp[bM,p.out,l.out],o.out⟩,by simp[intOf];omega⟩
   | false =>have l:=ae hq;clear hq;go_wp2;go_ret;exact⟨bo (iq h l).symm,o⟩
  ·have e:k=n:=by omega
   subst e;go_wp2;go_ret;exact⟨bo p.symm,f⟩
theorem r8 (a:Option Addr)(cap:Nat)(w:G):Calls Tryz.prog 109 #[Y a 0 cap] w fun e b=>e=QF (QC QD)/\b=w:=by
 go_enter Tryz.func109,Tryz.ntmps109;go_wp2;go_loop [7] (fun i=>i=J I 0) (fun _=>0);case atStart=>rfl
 case round =>subst hrel;go_wp2;go_ret;exact⟨rfl,rfl⟩
theorem lR (a:Option Addr)(n cap:Nat)(g:Nat->ByteArray)(w:G)(hn:(n:Int)<=1048576)(f:SlStr w a n g):Calls Tryz.prog 109 #[Y a n cap] w fun e h=>e=QF (QC (bM g n))/\Below w.heap.size w h:=by
 rcases f with rfl | ⟨b,off,rfl,f⟩
 ·exact(r8 a cap w).mono fun e h ⟨p,q⟩=>⟨p,by rw[q];exact a8 _ _⟩
 ·exact rZ b off n cap g w hn f
def aI (g:Nat->ByteArray):Nat->Bool
 | 0=>QD
 | 1=>QD
 | k+2=>aI g (k+1) && Op.bytesLess (g k).toList (g (k+1)).toList
theorem fA {g:Nat->ByteArray}{k n:Nat}(h:k<=n)(hn:aI g n=QD):aI g k=QD:=by
 induction n with
 | zero =>
  obtain rfl:k=0:=by omega
  exact hn
 | succ m b =>
  by_cases e:k=m+1
  ·subst e;exact hn
  ·cases m with
   | zero =>
    obtain rfl:k=0:=by omega
    rfl
   | succ j =>simp only[aI,j4] at hn;exact b (by omega) hn.1
theorem jJ {g:Nat->ByteArray}{k n:Nat}(h:k+1<n)(b:Op.bytesLess (g k).toList (g (k+1)).toList=QB):aI g n=QB:=by
 cases e:aI g n with
 | false=>rfl
 | true =>have h2:=fA (show k+2<=n by omega) e;simp[aI,b] at h2
theorem ry (b off n cap:Nat)(g:Nat->ByteArray)(w:G)(hn:(n:Int)<=1048576)(m:RowStr w b off n g):Calls Tryz.prog 110 #[Y (T (N b off Z)) n cap] w fun e r=>e=QF (QC (aI g n))/\Below w.heap.size w r:=by
 have o:=ae m;clear m;go_enter Tryz.func110,Tryz.ntmps110;go_wp2;go_loopw [3] (fun i wr=>∃ k:Nat,(k+1<=n∨k=0)/\i=J I ((k:Int)+1)/\Hid (aI g (k+1)=QD)/\Below w.heap.size w wr) (fun i _=>n+1 - (intOf i).toNat);case atStart=>exact⟨0,.inr rfl,rfl,rfl,a8 _ _⟩
 case round =>
  obtain⟨k,hk,rfl,p,q⟩:=hrel;have f:=ae q;clear q;by_cases h:k+1<n
  ·have c0:=(o.below f ly).2 k (by omega)
   have c1:=(o.below f ly).2 (k+1) h;have hlt':(k:Int)+1<n:=by omega
   go_wp2_with fail;go_quiet (fail);have j:=ae (AT f nq);clear c0 c1;generalize wr.drewN nq=W at j ⊢;cases hq:Op.bytesLess (g k).toList (g (k+1)).toList with
   | true =>have l:=ae hq;clear hq;go_wp2;exact⟨⟨k+1,.inl (by omega),by go_num,by show aI g (k+2)=QD;simp[aI,p.out,l.out],j.out⟩,by simp[intOf];omega⟩
   | false =>have l:=ae hq;clear hq;go_wp2;go_ret;exact⟨bo (jJ h l).symm,j⟩
  ·have hge:¬ (k:Int)+1<n:=by omega
   go_wp2;go_ret;exact⟨bo (fA (show n<=k+1 by omega) p.out).symm,f.out⟩
end Go.Proofs.YtamacmnikdejeaaGreatDoor.Vp
namespace Go.Proofs.YtamacmnikdejeaaGreatDoor.Vp
theorem bA {P:Program}{w:G}{A:Array Oper}{o:Oper}{a:Act}{K:Act->G->Prop}{QM:Exit->Act->G->Prop}{E:Prop}(QK:o.guard=Z)(s x:Operand)(t:TypeId)
  (O:o.op=.call { callee:=.builtin .append,args:=#[s,x],argTypes:=#[t,t] })
  (b:Nat) (e:TypeId) (i:TypeInfo) (z:QE) (size f:Nat) (QN:P.underlying t=T (.slice e)) (hi:P.info? e=T i) (hz:i.zero=T z)
  (y:i.size=size) (QO:i.bytes=f) (QP:z.cells.size=size) (QR:0<size)
  (v:QE) (n:Nat) (C:List QE) (L:a.eval s=v) (D:w.ownsRow b e size v n C)
  (B:Addr) (m c:Nat) (news:List QE) (QL:a.eval x=Y (T B) m c) (M:news.length=m*size) (q:∀ j u,news[j]?=T u->w.cell? (B.add j)=T u) (h1:∀ u∈news,u.oneCell'=QD)
  (H:n+m<=maxLen) (l:(n+m)*f<=140737488355328) (r:b<=w.heap.size)
  (h:∀ g p,p.ownsRow b e size g (n+m) (C++news)->w.grownBy p v.ownBlock->(g.ownBlock=v.ownBlock∨g.ownBlock=T w.heap.size)->K (a.put o.dst g) p) :
  if Region.wanted o (yielded A a.tmps)=QD then Oper.wp P o a w K QM else E:=by
 have V:Region.wanted o (yielded A a.tmps)=QD:=by simp[Region.wanted,QK]
 rw[gM V];obtain⟨g,p,R,h2,S,h4,W⟩:=run_append_own_at (P:=P) w b t o.type e i z size f QN hi hz y QO QP QR v n C D B m c news M q h1 H l r;unfold Oper.wp execOp;simp only[O,resolve,invoke,builtin,Sem.run_bind,Sem.run_pure,Result.andThen_ok,List.map_toArray,LQ,NG,L,QL,R];exact h g p h2 S W
theorem bu {P:Program}(w:G){A:Array Oper}{rest:List Oper}{o:Oper}{a:Act}{QM:Exit->Act->G->Prop}(QL:o.guard=Z)(s x:Operand)(t:TypeId)
  (QN:o.op=.call { callee:=.builtin .append,args:=#[s,x],argTypes:=#[t,t] })
  (b:Nat) (e:TypeId) (i:TypeInfo) (z:QE) (size f:Nat) (M:P.underlying t=T (.slice e)) (hi:P.info? e=T i) (hz:i.zero=T z)
  (y:i.size=size) (QO:i.bytes=f) (QP:z.cells.size=size) (E:0<size)
  (v:QE) (n:Nat) (C:List QE) (K:a.eval s=v) (D:w.ownsRow b e size v n C)
  (B:Addr) (m c:Nat) (news:List QE) (S:a.eval x=Y (T B) m c) (L:news.length=m*size) (q:∀ j u,news[j]?=T u->w.cell? (B.add j)=T u) (h1:∀ u∈news,u.oneCell'=QD)
  (QR:n+m<=maxLen) (l:(n+m)*f<=140737488355328) (r:b<=w.heap.size)
  (h:∀ g p,p.ownsRow b e size g (n+m) (C++news)->w.grownBy p v.ownBlock->(g.ownBlock=v.ownBlock∨g.ownBlock=T w.heap.size)->wpList P A QM rest (a.put o.dst g) p) :
  wpList P A QM (o :: rest) a w:=by
 refine wpList_plain QL fun K' H=>?_;obtain⟨g,p,O,h2,R,h4,QK⟩:=run_append_own_at (P:=P) w b t o.type e i z size f M hi hz y QO QP E v n C D B m c news L q h1 QR l r;unfold Oper.wp execOp;simp only[QN,resolve,invoke,builtin,Sem.run_bind,Sem.run_pure,Result.andThen_ok,List.map_toArray,LQ,NG,K,S,O];exact H _ _ (h g p h2 R QK)
end Go.Proofs.YtamacmnikdejeaaGreatDoor.Vp
namespace Go.Proofs.YtamacmnikdejeaaGreatDoor.Vp
open RowKit
theorem eZ (w:G)(x:QE)(t:TypeId):∀ j u,[x][j]?=T u->(w.alloc (Q #[x] t)).cell? (((N w.heap.size 0 Z):Addr).add j)=T u:=by
 intro j u b;match j,b with
 | 0,b=>simp at b;subst b;simp[Addr.add]
theorem d9 {P:Program}{w:G}{r:Array Oper}{o:Oper}{a:Act}{K:Act->G->Prop}{QM:Exit->Act->G->Prop}{E:Prop}(S:o.guard=Z)(s x:Operand)(t:TypeId)
  (O:o.op=.call { callee:=.builtin .append,args:=#[s,x],argTypes:=#[t,t] })
  (b:Nat) (e:TypeId) (i:TypeInfo) (z:QE) (size f:Nat) (QN:P.underlying t=T (.slice e)) (hi:P.info? e=T i) (hz:i.zero=T z)
  (q:i.size=size) (QO:i.bytes=f) (QP:z.cells.size=size) (QR:0<size)
  (v:QE) (n:Nat) (A:List QE) (L:a.eval s=v) (C:w.ownsRow b e size v n A)
  (y:Addr) (m c:Nat) (news:List QE) (R:a.eval x=Y (T y) m c) (M:news.length=m*size) (l:∀ j u,news[j]?=T u->w.cell? (y.add j)=T u) (h1:∀ u∈news,u.oneCell'=QD)
  (H:n+m<=maxLen) (g:(n+m)*f<=140737488355328) (p:b<=w.heap.size)
  (h:∀ B D,D.ownsRow b e size B (n+m) (A++news)->w.grownBy D v.ownBlock->(B=Y Z 0 0 ↔ v=Y Z 0 0/\m=0)->K (a.put o.dst B) D) :
  if Region.wanted o (yielded r a.tmps)=QD then Oper.wp P o a w K QM else E:=by
 have QL:Region.wanted o (yielded r a.tmps)=QD:=by simp[Region.wanted,S]
 rw[gM QL];exact wp_append_own w s x t O b e i z size f QN hi hz q QO QP QR v n A L C y m c news R M l h1 H g p h
theorem own_below {w g:G}{b B:Nat}{e:TypeId}{size n:Nat}{v:QE}{f:List QE}(h:w.ownsRow b e size v n f)(hb:Below B w g)(j:w.heap.size<=B):g.ownsRow b e size v n f :=
 h.kept (row:=Z) ⟨hb.os,hb.tape,hb.output,hb.size,fun k i _=>hb.block k (lj i j)⟩ (by cases v.ownBlock<;>simp)
theorem aE {w:G}{b base':Nat}{e:TypeId}{size n:Nat}{v:QE}{i:List QE}(h:w.ownsRow b e size v n i)(hb:base'<=b):w.ownsRow base' e size v n i:=by
 refine⟨h.1,?_⟩;rcases h.2 with h | ⟨g,cap,f,j,l,r⟩
 ·exact .inl h
 ·exact .inr ⟨g,cap,f,j,p9 hb l,r⟩
theorem jK (W:G)(b:Array QE)(ty:TypeId)(g j:Nat)(v:QE)(h:g=W.heap.size)(f:b[j]?=T v):(W.alloc (Q b ty)).cell? (N g j Z)=T v:=by subst h;simp[f]
theorem iX {w:G}{b n:Nat}{e:TypeId}{v:QE}{f:List QE}(h:w.ownsRow b e 1 v n f)(hn:0<n):∃ g cap,v=Y (T (N g 0 Z)) n cap:=by
 rcases h.2 with ⟨_,h0⟩ | ⟨g,cap,cur,i,_⟩
 ·omega
 ·exact⟨g,cap,i⟩
def ku (g:Nat->ByteArray)(n:Nat):List QE:=(List.range n).map fun i=>U (g i)
theorem qy (g:Nat->ByteArray)(n:Nat):ku g (n+1)=ku g n++[U (g n)]:=by simp[ku,JA]
theorem xT {w:G}{f n:Nat}{e:TypeId}{v:QE}{g:Nat->ByteArray}(h:w.ownsRow f e 1 v n (ku g n)):∃ a cap,v=Y a n cap/\SlStr w a n g:=by
 rcases h.2 with ⟨rfl,rfl⟩ | ⟨b,cap,cur,rfl,hb,l,_⟩
 ·exact⟨Z,0,rfl,.inl rfl⟩
 ·refine⟨_,cap,rfl,.inr ⟨b,0,rfl,lt_of_block l,fun i hi=>?_⟩⟩
  have:=h.cells (g:=b) rfl i (U (g i)) (by simp[ku,hi]);rw[D0];have j:((N b 0 Z):Addr).add i=(N b i Z):=by unfold Addr.add;split<;>simp_all
  rwa[j] at this
theorem oI (b off n c0:Nat)(u:QE)(a1:Option Addr)(n1 c1:Nat)(y:u=Y a1 n1 c1)(f:Nat->Source)(w:G)(hn:(n:Int)<=1048576)(z:RowSource w b off n f):Calls Tryz.prog 107 #[QG #[Y (T (N b off Z)) n c0,u]] w fun e E=>∃ a cap,e=QF (Y a n cap)/\SlStr E a n (fun i=>(f i).name)/\Below w.heap.size w E:=by
 subst y;have A:=ae z;clear z;obtain⟨r,hi,B,s,D⟩:=IL fW;have QP:=ae ((q9 w).alloc ly (Q #[Y (T (N b off Z)) n c0,Y a1 n1 c1] 29));go_enter Tryz.func107,Tryz.ntmps107;go_wp2;go_loopw [3,9] (fun v i wr=>∃ k:Nat,k<=n/\i=J I k/\Hid (wr.ownsRow w.heap.size 9 1 v k (ku (fun i=>(f i).name) k))/\Below w.heap.size w wr) (fun _ i _=>n - (intOf i).toNat);case atStart=>exact⟨0,by omega,rfl,BG _ _ _ _,QP⟩
 case round =>
  obtain⟨k,hk,rfl,q,p⟩:=hrel;have o:=ae p;have t:w.heap.size<=wr.heap.size:=p.size;clear p;by_cases C:k<n
  ·obtain⟨d0,d1⟩:=(A.2 k C).below o A.1
   go_wp2_with (at_builtin;refine CW _ rfl (.tmp 13) (.tmp 16) 35 rfl w.heap.size 9 r (U ⟨#[]⟩) 1 16 Tryz.underlying35 hi B s D rfl (by decide) _ k (ku (fun i=>(f i).name) k) (by simp[Act.eval]) ((q.alloc _).alloc _) (N (wr.heap.size+1) 0 Z) 1 1 [U (f k).name] (by simp[Act.eval]) rfl (by rw[show wr.heap.size+1=(wr.alloc (Q #[U (f k).name,U (f k).text] 121)).heap.size by simp];exact eZ _ _ _) (by simp[Value.oneCell']) (by unfold maxLen;omega) (by omega) (by simp;omega) ?_;intro v' w2 h g m;have QR:=ae h;have H:=ae (bg ((o.alloc t (Q #[U (f k).name,U (f k).text] 121)).alloc (by simp;omega) (Q #[U (f k).name] 9)) g (by simp;omega) (fun j e=>(q.lt j e).1));clear h g m);exact⟨⟨k+1,by omega,by go_num,by show World.ownsRow _ _ _ _ _ _ _;rw[qy];exact QR,H⟩,by simp[intOf];omega⟩
  ·have e:k=n:=by omega
   subst e;obtain⟨a,cap,rfl,l⟩:=xT q;have x:=ae l;clear l;go_wp2;go_ret;exact⟨a,cap,rfl,x,o⟩
theorem oJ (a0:Option Addr)(c0:Nat)(a1:Option Addr)(n1 c1:Nat)(g:Nat->ByteArray)(w:G):Calls Tryz.prog 107 #[QG #[Y a0 0 c0,Y a1 n1 c1]] w fun e f=>∃ a cap,e=QF (Y a 0 cap)/\SlStr f a 0 g/\Below w.heap.size w f:=by
 have j:=ae ((q9 w).alloc ly (Q #[Y a0 0 c0,Y a1 n1 c1] 29));go_enter Tryz.func107,Tryz.ntmps107;go_wp2;go_loopw [3,9] (fun v i wr=>v=Y Z 0 0/\i=J I 0/\Below w.heap.size w wr) (fun _ _ _=>0);case atStart=>exact⟨rfl,rfl,j⟩
 case round =>obtain⟨rfl,rfl,b⟩:=hrel;have h:=ae b;clear b;go_wp2;go_ret;exact⟨Z,0,rfl,.inl rfl,h⟩
theorem oK (a0:Option Addr)(n c0:Nat)(a1:Option Addr)(n1 c1:Nat)(f:Nat->Source)(w:G)(hn:(n:Int)<=1048576)(g:SlSource w a0 n f):Calls Tryz.prog 107 #[QG #[Y a0 n c0,Y a1 n1 c1]] w fun e h=>∃ a cap,e=QF (Y a n cap)/\SlStr h a n (fun i=>(f i).name)/\Below w.heap.size w h:=by
 rcases g with rfl | ⟨b,off,rfl,g⟩
 ·exact oJ a0 c0 a1 n1 c1 _ w
 ·exact oI b off n c0 _ a1 n1 c1 rfl f w hn g
theorem oL (b off n c0:Nat)(x:QE)(a1:Option Addr)(n1 c1:Nat)(z:x=Y a1 n1 c1)(f:Nat->Target)(w:G)(hn:(n:Int)<=1048576)(A:RowTarget w b off n f):Calls Tryz.prog 108 #[QG #[x,Y (T (N b off Z)) n c0]] w fun e H=>∃ a cap,e=QF (Y a n cap)/\SlStr H a n (fun i=>(f i).name)/\Below w.heap.size w H:=by
 subst z;have B:=ae A;clear A;obtain⟨r,hi,C,s,QR⟩:=IL fW;have K:=ae ((q9 w).alloc ly (Q #[Y a1 n1 c1,Y (T (N b off Z)) n c0] 29));go_enter Tryz.func108,Tryz.ntmps108;go_wp2;go_loopw [3,9] (fun v i wr=>∃ k:Nat,k<=n/\i=J I k/\Hid (wr.ownsRow w.heap.size 9 1 v k (ku (fun i=>(f i).name) k))/\Below w.heap.size w wr) (fun _ i _=>n - (intOf i).toNat);case atStart=>exact⟨0,by omega,rfl,BG _ _ _ _,K⟩
 case round =>
  obtain⟨k,hk,rfl,q,p⟩:=hrel;have o:=ae p;have u:w.heap.size<=wr.heap.size:=p.size;clear p;by_cases D:k<n
  ·obtain⟨d0,E,t,d1,_⟩:=(B.2 k D).below o ly B.1
   go_wp2_with (at_builtin;refine CW _ rfl (.tmp 13) (.tmp 16) 35 rfl w.heap.size 9 r (U ⟨#[]⟩) 1 16 Tryz.underlying35 hi C s QR rfl (by decide) _ k (ku (fun i=>(f i).name) k) (by simp[Act.eval]) ((q.alloc _).alloc _) (N (wr.heap.size+1) 0 Z) 1 1 [U (f k).name] (by simp[Act.eval]) rfl (by rw[show wr.heap.size+1=(wr.alloc (Q #[U (f k).name,Y E (f k).actN t] 125)).heap.size by simp];exact eZ _ _ _) (by simp[Value.oneCell']) (by unfold maxLen;omega) (by omega) (by simp;omega) ?_;intro v' w2 h g m;have QP:=ae h;have QO:=ae (bg ((o.alloc u (Q #[U (f k).name,Y E (f k).actN t] 125)).alloc (by simp;omega) (Q #[U (f k).name] 9)) g (by simp;omega) (fun j e=>(q.lt j e).1));clear h g m);exact⟨⟨k+1,by omega,by go_num,by show World.ownsRow _ _ _ _ _ _ _;rw[qy];exact QP,QO⟩,by simp[intOf];omega⟩
  ·have e:k=n:=by omega
   subst e;obtain⟨a,cap,rfl,l⟩:=xT q;have y:=ae l;clear l;go_wp2;go_ret;exact⟨a,cap,rfl,y,o⟩
theorem oM (a0:Option Addr)(c0:Nat)(a1:Option Addr)(n1 c1:Nat)(g:Nat->ByteArray)(w:G):Calls Tryz.prog 108 #[QG #[Y a1 n1 c1,Y a0 0 c0]] w fun e f=>∃ a cap,e=QF (Y a 0 cap)/\SlStr f a 0 g/\Below w.heap.size w f:=by
 have j:=ae ((q9 w).alloc ly (Q #[Y a1 n1 c1,Y a0 0 c0] 29));go_enter Tryz.func108,Tryz.ntmps108;go_wp2;go_loopw [3,9] (fun v i wr=>v=Y Z 0 0/\i=J I 0/\Below w.heap.size w wr) (fun _ _ _=>0);case atStart=>exact⟨rfl,rfl,j⟩
 case round =>obtain⟨rfl,rfl,b⟩:=hrel;have h:=ae b;clear b;go_wp2;go_ret;exact⟨Z,0,rfl,.inl rfl,h⟩
theorem oN (a0:Option Addr)(n c0:Nat)(a1:Option Addr)(n1 c1:Nat)(f:Nat->Target)(w:G)(hn:(n:Int)<=1048576)(g:SlTarget w a0 n f):Calls Tryz.prog 108 #[QG #[Y a1 n1 c1,Y a0 n c0]] w fun e h=>∃ a cap,e=QF (Y a n cap)/\SlStr h a n (fun i=>(f i).name)/\Below w.heap.size w h:=by
 rcases g with rfl | ⟨b,off,rfl,g⟩
 ·exact oM a0 c0 a1 n1 c1 _ w
 ·exact oL b off n c0 _ a1 n1 c1 rfl f w hn g
theorem Ci (w:G)(e:TypeId)(size:Nat):(w.alloc (Q #[] e)).ownsRow w.heap.size e size (Y (T (N w.heap.size 0 Z)) 0 0) 0 [] :=
 ⟨by simp,.inr ⟨w.heap.size,0,#[],rfl,j6 _,eT w _,j6 _,by unfold maxLen;omega,by simp,by simp⟩⟩
def aK (f:Nat->ah)(n:Nat):Bool:=decide ((cH f n).1=0)
theorem eB {f:Nat->ah}{n:Nat}(h:aK f n=QD):1<=n/\n<=400/\aF (aW f) n=-1:=by
 have h1:(cH f n).1=0:=JE h;unfold cH at h1;split at h1
 ·simp at h1
 ·rename_i h2
  refine⟨by omega,by omega,?_⟩;split at h1
  ·simp at h1
  ·rename_i b
   exact KH fun g=>b g
theorem mX {f:Nat->ah}{n:Nat}(h:aK f n=QD):∀ p,p<n->(f p).linksN<=200:=by
 intro p b;have h1:=dZ (eB h).2.2 p b;simp only[aW,j4,kindOk] at h1;obtain⟨_,h2⟩:=h1;split at h2
 ·simp[aS] at h2
  omega
 ·split at h2
  ·simp[aS] at h2
   omega
  ·split at h2
   ·simp[bQ] at h2
    omega
   ·simp at h2
theorem ec {f:Nat->ah}{n:Nat}(h:aK f n=QD):∀ p,p<n->∀ j,j<(f p).linksN->((f p).links j).ask=QD->0<=((f p).links j).at_/\((f p).links j).at_.toNat<p/\(f ((f p).links j).at_.toNat).name.toList=((f p).links j).name.toList:=by
 intro p o j q l;have h1:=dZ (eB h).2.2 p o;simp only[aW,j4,kindOk] at h1;obtain⟨_,h2⟩:=h1;have i:bq f p (f p) (f p).linksN=QD:=by
  split at h2
  ·simp[aS] at h2
   omega
  ·split at h2
   ·simp[aS] at h2
    omega
   ·split at h2
    ·simp only[bQ,j4] at h2
     exact h2.2
    ·simp at h2
 have b:=kl i j q;simp only[dm,l,if_true,j4,j5,LU] at b;obtain⟨_,⟨⟨_,g⟩,h5⟩,m⟩:=b;exact⟨g,by omega,m⟩
theorem oO {f:Nat->ah}{p n:Nat}(h:aH f p n=QD):∀ i,i<n->(f i).name.toList≠(f p).name.toList:=by
 induction n with
 | zero=>intro i hi;omega
 | succ n b =>
  simp only[aH,j4,Bool.not_eq_true',LN] at h;intro i hi;by_cases e:i=n
  ·subst e;exact h.2
  ·exact b h.1 i (by omega)
theorem jt {f:Nat->ah}{n:Nat}(h:aK f n=QD):∀ i j,i<n->j<n->(f i).name.toList=(f j).name.toList->i=j:=by
 have h1:(cH f n).1=0:=JE h;have h2:aF (fun p=>aH f p p) n=-1:=by
  unfold cH at h1;split at h1
  ·simp at h1
  ·split at h1
   ·simp at h1
   ·split at h1
    ·simp at h1
    ·rename_i g
     exact KH fun l=>g l
 have g:=dZ h2;intro i j hi m e;rcases MB i j with b | rfl | b
 ·exact absurd e (oO (g j m) i b)
 ·rfl
 ·exact absurd e.symm (oO (g i hi) j b)
def eU:ah:={ name:=⟨#[]⟩,kind:=0,code:=0,text:=⟨#[]⟩,actN:=0,act:=fun _=>⟨0,⟨#[]⟩,0⟩,linksN:=0,links:=fun _=>⟨⟨#[]⟩,QB,QB,0⟩ }
def dF (L:List ah)(i:Nat):ah:=L.getD i eU
def iY (f:Nat->ah)(t:ByteArray)(n:Nat):Int:=aF (fun i=>!((f i).name.toList == t.toList)) n
structure DBox (w:G)(b:Nat)(v0 v1 v2 v3 v4 v5:QE):Prop where
 lt:b<w.heap.size
 c0:w.cell? (N b 0 Z)=T v0/\w.frozen? (N b 0 Z)=QB
 c1:w.cell? (N b 1 Z)=T v1/\w.frozen? (N b 1 Z)=QB
 c2:w.cell? (N b 2 Z)=T v2/\w.frozen? (N b 2 Z)=QB
 c3:w.cell? (N b 3 Z)=T v3/\w.frozen? (N b 3 Z)=QB
 c4:w.cell? (N b 4 Z)=T v4/\w.frozen? (N b 4 Z)=QB
 c5:w.cell? (N b 5 Z)=T v5/\w.frozen? (N b 5 Z)=QB
theorem DBox.blk {w w':G}{b:Nat}{g i j l m n:QE}(h:DBox w b g i j l m n)(hz:w.heap.size<=w'.heap.size)(e:w'.heap[b]?=w.heap[b]?):DBox w' b g i j l m n :=
 have c:∀ o,w'.cell? (N b o Z)=w.cell? (N b o Z):=fun o=>cq (a:=(N b o Z)) e;have f:∀ o,w'.frozen? (N b o Z)=w.frozen? (N b o Z):=fun o=>IQ (a:=(N b o Z)) e
 ⟨lj h.lt hz,⟨(c 0).trans h.c0.1,(f 0).trans h.c0.2⟩,⟨(c 1).trans h.c1.1,(f 1).trans h.c1.2⟩,⟨(c 2).trans h.c2.1,(f 2).trans h.c2.2⟩,⟨(c 3).trans h.c3.1,(f 3).trans h.c3.2⟩,⟨(c 4).trans h.c4.1,(f 4).trans h.c4.2⟩,⟨(c 5).trans h.c5.1,(f 5).trans h.c5.2⟩⟩
theorem DBox.below {w m:G}{b B:Nat}{f g i j l n:QE}(h:DBox w b f g i j l n)(hb:Below B w m)(o:b<B):DBox m b f g i j l n:=h.blk hb.size (hb.block b o)
theorem DBox.far {w:G}{b:Nat}{f g i j l m:QE}(h:DBox w b f g i j l m){p:Addr}(n:p.block≠b)(v:QE):DBox (w.setCell p v) b f g i j l m:=h.blk (by simp) (qh _ _ _ _ (fun e=>n e.symm))
theorem DBox.set1 {w:G}{b:Nat}{f m g i j l:QE}(h:DBox w b f m g i j l)(v:QE):DBox (w.setCell (N b 1 Z) v) b f v g i j l :=
 ⟨by simpa using h.lt,⟨(sq _ _ _ _ (by simp)).trans h.c0.1,by simpa using h.c0.2⟩,⟨AI _ _ _ (by rw[h.c1.1];rfl),by simpa using h.c1.2⟩,⟨(sq _ _ _ _ (by simp)).trans h.c2.1,by simpa using h.c2.2⟩,⟨(sq _ _ _ _ (by simp)).trans h.c3.1,by simpa using h.c3.2⟩,⟨(sq _ _ _ _ (by simp)).trans h.c4.1,by simpa using h.c4.2⟩,⟨(sq _ _ _ _ (by simp)).trans h.c5.1,by simpa using h.c5.2⟩⟩
theorem DBox.set2 {w:G}{b:Nat}{f g m i j l:QE}(h:DBox w b f g m i j l)(v:QE):DBox (w.setCell (N b 2 Z) v) b f g v i j l :=
 ⟨by simpa using h.lt,⟨(sq _ _ _ _ (by simp)).trans h.c0.1,by simpa using h.c0.2⟩,⟨(sq _ _ _ _ (by simp)).trans h.c1.1,by simpa using h.c1.2⟩,⟨AI _ _ _ (by rw[h.c2.1];rfl),by simpa using h.c2.2⟩,⟨(sq _ _ _ _ (by simp)).trans h.c3.1,by simpa using h.c3.2⟩,⟨(sq _ _ _ _ (by simp)).trans h.c4.1,by simpa using h.c4.2⟩,⟨(sq _ _ _ _ (by simp)).trans h.c5.1,by simpa using h.c5.2⟩⟩
theorem DBox.set3 {w:G}{b:Nat}{f g i m j l:QE}(h:DBox w b f g i m j l)(v:QE):DBox (w.setCell (N b 3 Z) v) b f g i v j l :=
 ⟨by simpa using h.lt,⟨(sq _ _ _ _ (by simp)).trans h.c0.1,by simpa using h.c0.2⟩,⟨(sq _ _ _ _ (by simp)).trans h.c1.1,by simpa using h.c1.2⟩,⟨(sq _ _ _ _ (by simp)).trans h.c2.1,by simpa using h.c2.2⟩,⟨AI _ _ _ (by rw[h.c3.1];rfl),by simpa using h.c3.2⟩,⟨(sq _ _ _ _ (by simp)).trans h.c4.1,by simpa using h.c4.2⟩,⟨(sq _ _ _ _ (by simp)).trans h.c5.1,by simpa using h.c5.2⟩⟩
theorem DBox.set4 {w:G}{b:Nat}{f g i j m l:QE}(h:DBox w b f g i j m l)(v:QE):DBox (w.setCell (N b 4 Z) v) b f g i j v l :=
 ⟨by simpa using h.lt,⟨(sq _ _ _ _ (by simp)).trans h.c0.1,by simpa using h.c0.2⟩,⟨(sq _ _ _ _ (by simp)).trans h.c1.1,by simpa using h.c1.2⟩,⟨(sq _ _ _ _ (by simp)).trans h.c2.1,by simpa using h.c2.2⟩,⟨(sq _ _ _ _ (by simp)).trans h.c3.1,by simpa using h.c3.2⟩,⟨AI _ _ _ (by rw[h.c4.1];rfl),by simpa using h.c4.2⟩,⟨(sq _ _ _ _ (by simp)).trans h.c5.1,by simpa using h.c5.2⟩⟩
theorem DBox.set5 {w:G}{b:Nat}{f g i j l m:QE}(h:DBox w b f g i j l m)(v:QE):DBox (w.setCell (N b 5 Z) v) b f g i j l v :=
 ⟨by simpa using h.lt,⟨(sq _ _ _ _ (by simp)).trans h.c0.1,by simpa using h.c0.2⟩,⟨(sq _ _ _ _ (by simp)).trans h.c1.1,by simpa using h.c1.2⟩,⟨(sq _ _ _ _ (by simp)).trans h.c2.1,by simpa using h.c2.2⟩,⟨(sq _ _ _ _ (by simp)).trans h.c3.1,by simpa using h.c3.2⟩,⟨(sq _ _ _ _ (by simp)).trans h.c4.1,by simpa using h.c4.2⟩,⟨AI _ _ _ (by rw[h.c5.1];rfl),by simpa using h.c5.2⟩⟩
theorem nJ (w:G)(g h i f b j:QE)(t:TypeId):DBox (w.alloc (Q #[g,h,i,f,b,j] t)) w.heap.size g h i f b j:=by refine⟨by simp,?_,?_,?_,?_,?_,?_⟩<;>simp
theorem zv (b off m c:Nat)(g:Nat->ah)(t:ByteArray)(w:G)(hmm:(m:Int)<=1048576)(f:RowDeed w b off m g):Calls Tryz.prog 93 #[QG #[Y (T (N b off Z)) m c],U t] w fun e s=>e=QF (J I (iY g t m))/\Below w.heap.size w s:=by
 have h:=ae ((q9 w).alloc ly (Q #[Y (T (N b off Z)) m c] 25));have q:=ae (f.below h ly);have r:(w.alloc (Q #[Y (T (N b off Z)) m c] 25)).cell? (N w.heap.size 0 Z)=T (Y (T (N b off Z)) m c):=by simp
 clear f;go_enter Tryz.func93,Tryz.ntmps93;go_wp2;generalize w.alloc (Q #[Y (T (N b off Z)) m c] 25)=W at h q r ⊢;go_loop [5] (fun i=>∃ k:Nat,k<=m/\i=J I k/\Hid (∀ j,j<k->(!((g j).name.toList == t.toList))=QD)) (fun i=>m - (intOf i).toNat);case atStart=>exact⟨0,by omega,rfl,fun j p=>absurd p (E4 _)⟩
 case round =>
  obtain⟨k,hk,rfl,n⟩:=hrel;by_cases l:k<m
  ·obtain⟨c0,_⟩:=q.2 k l
   cases hb:((g k).name.toList == t.toList) with
   | true =>have o:=ae hb;go_wp2;go_ret;refine⟨?_,h⟩;rw[iY,fx l (by rw[o.out];rfl) n.out];rfl
   | false =>
    have o:=ae hb;go_wp2;refine⟨⟨k+1,by omega,by go_num,fun j p=>?_⟩,by simp[intOf];omega⟩;by_cases e:j=k
    ·subst e;rw[o.out];rfl
    ·exact n j (by omega)
  ·have e:k=m:=by omega
   subst e;go_wp2;go_ret;refine⟨?_,h⟩;rw[iY,dS n.out];rfl
theorem zx (a:Option Addr)(c:Nat)(g:Nat->ah)(t:ByteArray)(w:G):Calls Tryz.prog 93 #[QG #[Y a 0 c],U t] w fun e h=>e=QF (J I (iY g t 0))/\Below w.heap.size w h:=by
 have b:=ae ((q9 w).alloc ly (Q #[Y a 0 c] 25));have f:(w.alloc (Q #[Y a 0 c] 25)).cell? (N w.heap.size 0 Z)=T (Y a 0 c):=by simp
 go_enter Tryz.func93,Tryz.ntmps93;go_wp2;generalize w.alloc (Q #[Y a 0 c] 25)=W at b f ⊢;go_loop [5] (fun i=>i=J I 0) (fun _=>0);case atStart=>rfl
 case round =>subst hrel;go_wp2;go_ret;exact⟨rfl,b⟩
theorem zy (a:Option Addr)(m c:Nat)(g:Nat->ah)(t:ByteArray)(w:G)(f:(m:Int)<=1048576)(i:SlDeed w a m g):Calls Tryz.prog 93 #[QG #[Y a m c],U t] w fun e j=>e=QF (J I (iY g t m))/\Below w.heap.size w j:=by
 by_cases hz:m=0
 ·subst hz
  exact zx a c g t w
 ·obtain⟨b,off,rfl,h⟩:=i.resolve_left hz
  exact zv b off m c g t w f h
end Go.Proofs.YtamacmnikdejeaaGreatDoor.Vp
