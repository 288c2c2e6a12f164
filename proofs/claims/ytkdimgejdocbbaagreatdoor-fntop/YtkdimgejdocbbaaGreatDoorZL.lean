import Derived.Test.YtkdimgejdocbbaaGreatDoorZD
import Derived.OneCell
import Derived.OwnWalk
import Derived.Maps.AppendAt
import Derived.Deep.RegionLaw
set_option maxRecDepth 100000
set_option maxHeartbeats 2000000
open Go.Addr renaming mk->J
open Go.Value renaming slice->Y,string->U,int->N,bool->QA,agg->QE
open Option renaming none->Z,some->Q
open Go.Obj renaming cells->T
open Go.IntKind renaming i64->I
open Go renaming World->E,Value->QB,TypeId->QF
open Bool renaming false->D,true->QC
open Go.Ending renaming returned->QD
namespace Go.Proofs.YtkdimgejdocbbaaGreatDoor.Vp
open RowKit
def bM (g:Nat->ByteArray):Nat->Bool
 | 0=>QC
 | k+1=>bM g k && au (g k)
theorem rx {g:Nat->ByteArray}{k n:Nat}(h:k<=n)(b:bM g n=QC):bM g k=QC:=by
 induction n with
 | zero =>
  obtain rfl:k=0:=by omega
  exact b
 | succ m d =>
  by_cases e:k=m+1
  ·subst e;exact b
  ·simp only[bM,gM] at b
   exact d (by omega) b.1
theorem io {g:Nat->ByteArray}{k n:Nat}(h:k<n)(b:au (g k)=D):bM g n=D:=by
 cases e:bM g n with
 | false=>rfl
 | true =>have h2:=rx (show k+1<=n by omega) e;simp[bM,b] at h2
theorem vQ (a0 a1:Option Addr)(n0 c0 n1 c1:Nat)(w:E)(h0:(n0:Int)<=1048576)(h1:(n1:Int)<=1048576):Calls Tryz.prog 70 #[QE #[Y a0 n0 c0,Y a1 n1 c1]] w fun e b=>e=QD (N I ((n0:Int)+n1))/\Below w.heap.size w b:=by go_enter Tryz.func70,Tryz.ntmps70;go_wp2;go_ret;exact⟨rfl,br.alloc lr _⟩
theorem ry (b off n m:Nat)(g:Nat->ByteArray)(w:E)(hn:(n:Int)<=1048576)(q:RowStr w b off n g):Calls Tryz.prog 73 #[Y (Q (J b off Z)) n m] w fun e s=>e=QD (QA (bM g n))/\Below w.heap.size w s:=by
 have r:=ae q;clear q;go_enter Tryz.func73,Tryz.ntmps73;go_wp2;go_loopw [7] (fun i wr=>∃ k:Nat,k<=n/\i=N I k/\Hid (bM g k=QC)/\Below w.heap.size w wr) (fun i _=>n - (intOf i).toNat);case atStart=>exact⟨0,by omega,rfl,rfl,eI _ _⟩
 case round =>
  obtain⟨k,hk,rfl,l,p⟩:=hrel;have d:=ae p;clear p;by_cases h:k<n
  ·have c0:=(r.below d lr).2 k h
   go_wp2_with fail;refine(eO _ _).mono ?_;rintro e w1 ⟨rfl,f⟩;have o:=ae (d.trans (f.mono d.size));clear f;cases hq:au (g k) with
   | true =>have j:=ae hq;clear hq;go_wp2;exact⟨⟨k+1,by omega,by go_num,by show bM g (k+1)=QC;simp[bM,l.out,j.out],o.out⟩,by simp[intOf];omega⟩
   | false =>have j:=ae hq;clear hq;go_wp2;go_ret;exact⟨aW (io h j).symm,o⟩
  ·have e:k=n:=by omega
   subst e;go_wp2;go_ret;exact⟨aW l.symm,d⟩
theorem rz (a:Option Addr)(b:Nat)(w:E):Calls Tryz.prog 73 #[Y a 0 b] w fun e d=>e=QD (QA QC)/\d=w:=by
 go_enter Tryz.func73,Tryz.ntmps73;go_wp2;go_loop [7] (fun i=>i=N I 0) (fun _=>0);case atStart=>rfl
 case round =>subst hrel;go_wp2;go_ret;exact⟨rfl,rfl⟩
theorem lK (a:Option Addr)(n d:Nat)(g:Nat->ByteArray)(w:E)(i:(n:Int)<=1048576)(f:SlStr w a n g):Calls Tryz.prog 73 #[Y a n d] w fun e h=>e=QD (QA (bM g n))/\Below w.heap.size w h:=by
 rcases f with rfl | ⟨b,off,rfl,f⟩
 ·exact(rz a d w).mono fun e h ⟨p,q⟩=>⟨p,by rw[q];exact eI _ _⟩
 ·exact ry b off n d g w i f
def aE (g:Nat->ByteArray):Nat->Bool
 | 0=>QC
 | 1=>QC
 | k+2=>aE g (k+1) && Op.bytesLess (g k).toList (g (k+1)).toList
theorem fu {g:Nat->ByteArray}{k n:Nat}(h:k<=n)(b:aE g n=QC):aE g k=QC:=by
 induction n with
 | zero =>
  obtain rfl:k=0:=by omega
  exact b
 | succ m d =>
  by_cases e:k=m+1
  ·subst e;exact b
  ·cases m with
   | zero =>
    obtain rfl:k=0:=by omega
    rfl
   | succ j =>simp only[aE,gM] at b;exact d (by omega) b.1
theorem jz {g:Nat->ByteArray}{k n:Nat}(h:k+1<n)(b:Op.bytesLess (g k).toList (g (k+1)).toList=D):aE g n=D:=by
 cases e:aE g n with
 | false=>rfl
 | true =>have h2:=fu (show k+2<=n by omega) e;simp[aE,b] at h2
theorem qF (b off n o:Nat)(g:Nat->ByteArray)(w:E)(hn:(n:Int)<=1048576)(q:RowStr w b off n g):Calls Tryz.prog 74 #[Y (Q (J b off Z)) n o] w fun e r=>e=QD (QA (aE g n))/\Below w.heap.size w r:=by
 have m:=ae q;clear q;go_enter Tryz.func74,Tryz.ntmps74;go_wp2;go_loopw [3] (fun i wr=>∃ k:Nat,(k+1<=n∨k=0)/\i=N I ((k:Int)+1)/\Hid (aE g (k+1)=QC)/\Below w.heap.size w wr) (fun i _=>n+1 - (intOf i).toNat);case atStart=>exact⟨0,.inr rfl,rfl,rfl,eI _ _⟩
 case round =>
  obtain⟨k,hk,rfl,l,p⟩:=hrel;have d:=ae p;clear p;by_cases f:k+1<n
  ·have c0:=(m.below d lr).2 k (by omega)
   have c1:=(m.below d lr).2 (k+1) f;have hlt':(k:Int)+1<n:=by omega
   go_wp2_with fail;go_quiet (fail);have h:=ae (wC d nq);clear c0 c1;generalize wr.drewN nq=W at h ⊢;cases hq:Op.bytesLess (g k).toList (g (k+1)).toList with
   | true =>have j:=ae hq;clear hq;go_wp2;exact⟨⟨k+1,.inl (by omega),by go_num,by show aE g (k+2)=QC;simp[aE,l.out,j.out],h.out⟩,by simp[intOf];omega⟩
   | false =>have j:=ae hq;clear hq;go_wp2;go_ret;exact⟨aW (jz f j).symm,h⟩
  ·have hge:¬ (k:Int)+1<n:=by omega
   go_wp2;go_ret;exact⟨aW (fu (show n<=k+1 by omega) l.out).symm,d.out⟩
end Go.Proofs.YtkdimgejdocbbaaGreatDoor.Vp
namespace Go.Proofs.YtkdimgejdocbbaaGreatDoor.Vp
theorem bA {P:Program}{w:E}{r:Array Oper}{o:Oper}{a:Act}{K:Act->E->Prop}{QL:Exit->Act->E->Prop}{QP:Prop}(L:o.guard=Z)(s x:Operand)(t:QF)
  (QN:o.op=.call { callee:=.builtin .append,args:=#[s,x],argTypes:=#[t,t] })
  (d:Nat) (e:QF) (i:TypeInfo) (z:QB) (size b:Nat) (S:P.underlying t=Q (.slice e)) (hi:P.info? e=Q i) (hz:i.zero=Q z)
  (q:i.size=size) (G:i.bytes=b) (C:z.cells.size=size) (H:0<size)
  (v:QB) (n:Nat) (y:List QB) (QM:a.eval s=v) (A:w.ownsRow d e size v n y)
  (B:Addr) (m c:Nat) (news:List QB) (QK:a.eval x=Y (Q B) m c) (QO:news.length=m*size) (p:∀ j u,news[j]?=Q u->w.cell? (B.add j)=Q u) (h1:∀ u∈news,u.oneCell'=QC)
  (QQ:n+m<=maxLen) (k:(n+m)*b<=140737488355328) (l:d<=w.heap.size)
  (h:∀ f g,g.ownsRow d e size f (n+m) (y++news)->w.grownBy g v.ownBlock->(f.ownBlock=v.ownBlock∨f.ownBlock=Q w.heap.size)->K (a.put o.dst f) g) :
  if Region.wanted o (yielded r a.tmps)=QC then Oper.wp P o a w K QL else QP:=by
 have QJ:Region.wanted o (yielded r a.tmps)=QC:=by simp[Region.wanted,L]
 rw[eT QJ];obtain⟨f,g,O,h2,M,h4,R⟩:=run_append_own_at (P:=P) w d t o.type e i z size b S hi hz q G C H v n y A B m c news QO p h1 QQ k l;unfold Oper.wp execOp;simp only[QN,resolve,invoke,builtin,Sem.run_bind,Sem.run_pure,Result.andThen_ok,List.map_toArray,LD,LQ,QM,QK,O];exact h f g h2 M R
theorem bu {P:Program}(w:E){r:Array Oper}{rest:List Oper}{o:Oper}{a:Act}{QL:Exit->Act->E->Prop}(K:o.guard=Z)(s x:Operand)(t:QF)
  (QN:o.op=.call { callee:=.builtin .append,args:=#[s,x],argTypes:=#[t,t] })
  (d:Nat) (e:QF) (i:TypeInfo) (z:QB) (size b:Nat) (R:P.underlying t=Q (.slice e)) (hi:P.info? e=Q i) (hz:i.zero=Q z)
  (q:i.size=size) (QP:i.bytes=b) (C:z.cells.size=size) (H:0<size)
  (v:QB) (n:Nat) (y:List QB) (M:a.eval s=v) (A:w.ownsRow d e size v n y)
  (B:Addr) (m c:Nat) (news:List QB) (S:a.eval x=Y (Q B) m c) (QO:news.length=m*size) (p:∀ j u,news[j]?=Q u->w.cell? (B.add j)=Q u) (h1:∀ u∈news,u.oneCell'=QC)
  (QQ:n+m<=maxLen) (k:(n+m)*b<=140737488355328) (l:d<=w.heap.size)
  (h:∀ f g,g.ownsRow d e size f (n+m) (y++news)->w.grownBy g v.ownBlock->(f.ownBlock=v.ownBlock∨f.ownBlock=Q w.heap.size)->wpList P r QL rest (a.put o.dst f) g) :
  wpList P r QL (o :: rest) a w:=by
 refine wpList_plain K fun K' G=>?_;obtain⟨f,g,QM,h2,L,h4,O⟩:=run_append_own_at (P:=P) w d t o.type e i z size b R hi hz q QP C H v n y A B m c news QO p h1 QQ k l;unfold Oper.wp execOp;simp only[QN,resolve,invoke,builtin,Sem.run_bind,Sem.run_pure,Result.andThen_ok,List.map_toArray,LD,LQ,M,S,QM];exact G _ _ (h f g h2 L O)
end Go.Proofs.YtkdimgejdocbbaaGreatDoor.Vp
namespace Go.Proofs.YtkdimgejdocbbaaGreatDoor.Vp
open RowKit
theorem dh (w:E)(x:QB)(t:QF):∀ j u,[x][j]?=Q u->(w.alloc (T #[x] t)).cell? (((J w.heap.size 0 Z):Addr).add j)=Q u:=by
 intro j u b;match j,b with
 | 0,b=>simp at b;subst b;simp[Addr.add]
theorem cZ {P:Program}{w:E}{p:Array Oper}{o:Oper}{a:Act}{K:Act->E->Prop}{QL:Exit->Act->E->Prop}{QP:Prop}(L:o.guard=Z)(s x:Operand)(t:QF)
  (QN:o.op=.call { callee:=.builtin .append,args:=#[s,x],argTypes:=#[t,t] })
  (d:Nat) (e:QF) (i:TypeInfo) (z:QB) (size b:Nat) (QM:P.underlying t=Q (.slice e)) (hi:P.info? e=Q i) (hz:i.zero=Q z)
  (l:i.size=size) (G:i.bytes=b) (C:z.cells.size=size) (H:0<size)
  (v:QB) (n:Nat) (q:List QB) (M:a.eval s=v) (A:w.ownsRow d e size v n q)
  (B:Addr) (m c:Nat) (news:List QB) (O:a.eval x=Y (Q B) m c) (QO:news.length=m*size) (k:∀ j u,news[j]?=Q u->w.cell? (B.add j)=Q u) (h1:∀ u∈news,u.oneCell'=QC)
  (QQ:n+m<=maxLen) (f:(n+m)*b<=140737488355328) (g:d<=w.heap.size)
  (h:∀ r y,y.ownsRow d e size r (n+m) (q++news)->w.grownBy y v.ownBlock->(r=Y Z 0 0 ↔ v=Y Z 0 0/\m=0)->K (a.put o.dst r) y) :
  if Region.wanted o (yielded p a.tmps)=QC then Oper.wp P o a w K QL else QP:=by
 have R:Region.wanted o (yielded p a.tmps)=QC:=by simp[Region.wanted,L]
 rw[eT R];exact wp_append_own w s x t QN d e i z size b QM hi hz l G C H v n q M A B m c news O QO k h1 QQ f g h
theorem own_below {w f:E}{b B:Nat}{e:QF}{size n:Nat}{v:QB}{d:List QB}(h:w.ownsRow b e size v n d)(hb:Below B w f)(i:w.heap.size<=B):f.ownsRow b e size v n d :=
 h.kept (row:=Z) ⟨hb.os,hb.tape,hb.output,hb.size,fun k g _=>hb.block k (ll g i)⟩ (by cases v.ownBlock<;>simp)
theorem aI {w:E}{b base':Nat}{e:QF}{size n:Nat}{v:QB}{d:List QB}(h:w.ownsRow b e size v n d)(hb:base'<=b):w.ownsRow base' e size v n d:=by
 refine⟨h.1,?_⟩;rcases h.2 with h | ⟨g,f,i,j,k,r⟩
 ·exact .inl h
 ·exact .inr ⟨g,f,i,j,j5 hb k,r⟩
theorem jA (W:E)(b:Array QB)(ty:QF)(g j:Nat)(v:QB)(f:g=W.heap.size)(d:b[j]?=Q v):(W.alloc (T b ty)).cell? (J g j Z)=Q v:=by subst f;simp[d]
theorem gw {w:E}{d n:Nat}{e:QF}{v:QB}{f:List QB}(h:w.ownsRow d e 1 v n f)(hn:0<n):∃ g b,v=Y (Q (J g 0 Z)) n b:=by
 rcases h.2 with ⟨_,h0⟩ | ⟨g,b,cur,i,_⟩
 ·omega
 ·exact⟨g,b,i⟩
def kf (g:Nat->ByteArray)(n:Nat):List QB:=(List.range n).map fun i=>U (g i)
theorem pG (g:Nat->ByteArray)(n:Nat):kf g (n+1)=kf g n++[U (g n)]:=by simp[kf,JA]
theorem xM {w:E}{f n:Nat}{e:QF}{v:QB}{g:Nat->ByteArray}(h:w.ownsRow f e 1 v n (kf g n)):∃ a d,v=Y a n d/\SlStr w a n g:=by
 rcases h.2 with ⟨rfl,rfl⟩ | ⟨b,d,cur,rfl,hb,j,_⟩
 ·exact⟨Z,0,rfl,.inl rfl⟩
 ·refine⟨_,d,rfl,.inr ⟨b,0,rfl,lt_of_block j,fun i hi=>?_⟩⟩
  have:=h.cells (g:=b) rfl i (U (g i)) (by simp[kf,hi]);rw[C9];have k:((J b 0 Z):Addr).add i=(J b i Z):=by unfold Addr.add;split<;>simp_all
  rwa[k] at this
theorem nT (b off n c0:Nat)(QP:QB)(a1:Option Addr)(n1 c1:Nat)(u:QP=Y a1 n1 c1)(f:Nat->Source)(w:E)(hn:(n:Int)<=1048576)(s:RowSource w b off n f):Calls Tryz.prog 71 #[QE #[Y (Q (J b off Z)) n c0,QP]] w fun e A=>∃ a g,e=QD (Y a n g)/\SlStr A a n (fun i=>(f i).name)/\Below w.heap.size w A:=by
 subst u;have y:=ae s;clear s;obtain⟨r,hi,z,QQ,x⟩:=IQ fW;have G:=ae ((Qs w).alloc lr (T #[Y (Q (J b off Z)) n c0,Y a1 n1 c1] 26));go_enter Tryz.func71,Tryz.ntmps71;go_wp2;go_loopw [3,9] (fun v i wr=>∃ k:Nat,k<=n/\i=N I k/\Hid (wr.ownsRow w.heap.size 9 1 v k (kf (fun i=>(f i).name) k))/\Below w.heap.size w wr) (fun _ i _=>n - (intOf i).toNat);case atStart=>exact⟨0,by omega,rfl,E4 _ _ _ _,G⟩
 case round =>
  obtain⟨k,hk,rfl,p,o⟩:=hrel;have q:=ae o;have C:w.heap.size<=wr.heap.size:=o.size;clear o;by_cases B:k<n
  ·obtain⟨d0,d1⟩:=(y.2 k B).below q y.1
   go_wp2_with (at_builtin;refine CL _ rfl (.tmp 13) (.tmp 16) 39 rfl w.heap.size 9 r (U ⟨#[]⟩) 1 16 Tryz.underlying39 hi z QQ x rfl (by decide) _ k (kf (fun i=>(f i).name) k) (by simp[Act.eval]) ((p.alloc _).alloc _) (J (wr.heap.size+1) 0 Z) 1 1 [U (f k).name] (by simp[Act.eval]) rfl (by rw[show wr.heap.size+1=(wr.alloc (T #[U (f k).name,U (f k).text] 104)).heap.size by simp];exact dh _ _ _) (by simp[Value.oneCell']) (by unfold maxLen;omega) (by omega) (by simp;omega) ?_;intro v' w2 h d m;have H:=ae h;have QO:=ae (bg ((q.alloc C (T #[U (f k).name,U (f k).text] 104)).alloc (by simp;omega) (T #[U (f k).name] 9)) d (by simp;omega) (fun j e=>(p.lt j e).1));clear h d m);exact⟨⟨k+1,by omega,by go_num,by show World.ownsRow _ _ _ _ _ _ _;rw[pG];exact H,QO⟩,by simp[intOf];omega⟩
  ·have e:k=n:=by omega
   subst e;obtain⟨a,g,rfl,l⟩:=xM p;have t:=ae l;clear l;go_wp2;go_ret;exact⟨a,g,rfl,t,q⟩
theorem nU (a0:Option Addr)(c0:Nat)(a1:Option Addr)(n1 c1:Nat)(g:Nat->ByteArray)(w:E):Calls Tryz.prog 71 #[QE #[Y a0 0 c0,Y a1 n1 c1]] w fun e f=>∃ a b,e=QD (Y a 0 b)/\SlStr f a 0 g/\Below w.heap.size w f:=by
 have h:=ae ((Qs w).alloc lr (T #[Y a0 0 c0,Y a1 n1 c1] 26));go_enter Tryz.func71,Tryz.ntmps71;go_wp2;go_loopw [3,9] (fun v i wr=>v=Y Z 0 0/\i=N I 0/\Below w.heap.size w wr) (fun _ _ _=>0);case atStart=>exact⟨rfl,rfl,h⟩
 case round =>obtain⟨rfl,rfl,d⟩:=hrel;have j:=ae d;clear d;go_wp2;go_ret;exact⟨Z,0,rfl,.inl rfl,j⟩
theorem nV (a0:Option Addr)(n c0:Nat)(a1:Option Addr)(n1 c1:Nat)(f:Nat->Source)(w:E)(j:(n:Int)<=1048576)(d:SlSource w a0 n f):Calls Tryz.prog 71 #[QE #[Y a0 n c0,Y a1 n1 c1]] w fun e h=>∃ a g,e=QD (Y a n g)/\SlStr h a n (fun i=>(f i).name)/\Below w.heap.size w h:=by
 rcases d with rfl | ⟨b,off,rfl,d⟩
 ·exact nU a0 c0 a1 n1 c1 _ w
 ·exact nT b off n c0 _ a1 n1 c1 rfl f w j d
theorem nW (b off n c0:Nat)(G:QB)(a1:Option Addr)(n1 c1:Nat)(x:G=Y a1 n1 c1)(f:Nat->Target)(w:E)(hn:(n:Int)<=1048576)(t:RowTarget w b off n f):Calls Tryz.prog 72 #[QE #[G,Y (Q (J b off Z)) n c0]] w fun e B=>∃ a g,e=QD (Y a n g)/\SlStr B a n (fun i=>(f i).name)/\Below w.heap.size w B:=by
 subst x;have z:=ae t;clear t;obtain⟨r,hi,A,QP,y⟩:=IQ fW;have QO:=ae ((Qs w).alloc lr (T #[Y a1 n1 c1,Y (Q (J b off Z)) n c0] 26));go_enter Tryz.func72,Tryz.ntmps72;go_wp2;go_loopw [3,9] (fun v i wr=>∃ k:Nat,k<=n/\i=N I k/\Hid (wr.ownsRow w.heap.size 9 1 v k (kf (fun i=>(f i).name) k))/\Below w.heap.size w wr) (fun _ i _=>n - (intOf i).toNat);case atStart=>exact⟨0,by omega,rfl,E4 _ _ _ _,QO⟩
 case round =>
  obtain⟨k,hk,rfl,p,o⟩:=hrel;have q:=ae o;have QQ:w.heap.size<=wr.heap.size:=o.size;clear o;by_cases C:k<n
  ·obtain⟨d0,H,s,d1,_⟩:=(z.2 k C).below q lr z.1
   go_wp2_with (at_builtin;refine CL _ rfl (.tmp 13) (.tmp 16) 39 rfl w.heap.size 9 r (U ⟨#[]⟩) 1 16 Tryz.underlying39 hi A QP y rfl (by decide) _ k (kf (fun i=>(f i).name) k) (by simp[Act.eval]) ((p.alloc _).alloc _) (J (wr.heap.size+1) 0 Z) 1 1 [U (f k).name] (by simp[Act.eval]) rfl (by rw[show wr.heap.size+1=(wr.alloc (T #[U (f k).name,Y H (f k).actN s] 108)).heap.size by simp];exact dh _ _ _) (by simp[Value.oneCell']) (by unfold maxLen;omega) (by omega) (by simp;omega) ?_;intro v' w2 h d m;have QN:=ae h;have K:=ae (bg ((q.alloc QQ (T #[U (f k).name,Y H (f k).actN s] 108)).alloc (by simp;omega) (T #[U (f k).name] 9)) d (by simp;omega) (fun j e=>(p.lt j e).1));clear h d m);exact⟨⟨k+1,by omega,by go_num,by show World.ownsRow _ _ _ _ _ _ _;rw[pG];exact QN,K⟩,by simp[intOf];omega⟩
  ·have e:k=n:=by omega
   subst e;obtain⟨a,g,rfl,l⟩:=xM p;have u:=ae l;clear l;go_wp2;go_ret;exact⟨a,g,rfl,u,q⟩
theorem nX (a0:Option Addr)(c0:Nat)(a1:Option Addr)(n1 c1:Nat)(g:Nat->ByteArray)(w:E):Calls Tryz.prog 72 #[QE #[Y a1 n1 c1,Y a0 0 c0]] w fun e f=>∃ a b,e=QD (Y a 0 b)/\SlStr f a 0 g/\Below w.heap.size w f:=by
 have h:=ae ((Qs w).alloc lr (T #[Y a1 n1 c1,Y a0 0 c0] 26));go_enter Tryz.func72,Tryz.ntmps72;go_wp2;go_loopw [3,9] (fun v i wr=>v=Y Z 0 0/\i=N I 0/\Below w.heap.size w wr) (fun _ _ _=>0);case atStart=>exact⟨rfl,rfl,h⟩
 case round =>obtain⟨rfl,rfl,d⟩:=hrel;have j:=ae d;clear d;go_wp2;go_ret;exact⟨Z,0,rfl,.inl rfl,j⟩
theorem nY (a0:Option Addr)(n c0:Nat)(a1:Option Addr)(n1 c1:Nat)(f:Nat->Target)(w:E)(j:(n:Int)<=1048576)(d:SlTarget w a0 n f):Calls Tryz.prog 72 #[QE #[Y a1 n1 c1,Y a0 n c0]] w fun e h=>∃ a g,e=QD (Y a n g)/\SlStr h a n (fun i=>(f i).name)/\Below w.heap.size w h:=by
 rcases d with rfl | ⟨b,off,rfl,d⟩
 ·exact nX a0 c0 a1 n1 c1 _ w
 ·exact nW b off n c0 _ a1 n1 c1 rfl f w j d
theorem uD (w:E)(e:QF)(size:Nat):(w.alloc (T #[] e)).ownsRow w.heap.size e size (Y (Q (J w.heap.size 0 Z)) 0 0) 0 [] :=
 ⟨by simp,.inr ⟨w.heap.size,0,#[],rfl,j6 _,eL w _,j6 _,by unfold maxLen;omega,by simp,by simp⟩⟩
def aX (f:Nat->aj)(n:Nat):Bool:=decide ((dr f n).1=0)
theorem dU {f:Nat->aj}{n:Nat}(h:aX f n=QC):1<=n/\n<=400/\aJ (bc f) n=-1:=by
 have h1:(dr f n).1=0:=IU h;unfold dr at h1;split at h1
 ·simp at h1
 ·rename_i h2
  refine⟨by omega,by omega,?_⟩;split at h1
  ·simp at h1
  ·rename_i b
   exact JR fun d=>b d
theorem gP {f:Nat->aj}{n:Nat}(h:aX f n=QC):∀ p,p<n->(f p).linksN<=200:=by
 intro p b;have h1:=dW (dU h).2.2 p b;simp only[bc,gM,kindOk] at h1;obtain⟨_,h2⟩:=h1;split at h2
 ·simp[aO] at h2
  omega
 ·split at h2
  ·simp[aO] at h2
   omega
  ·split at h2
   ·simp[ce] at h2
    omega
   ·simp at h2
theorem gX {f:Nat->aj}{n:Nat}(h:aX f n=QC):∀ p,p<n->∀ j,j<(f p).linksN->((f p).links j).ask=QC->0<=((f p).links j).at_/\((f p).links j).at_.toNat<p/\(f ((f p).links j).at_.toNat).name.toList=((f p).links j).name.toList:=by
 intro p i j k m;have h1:=dW (dU h).2.2 p i;simp only[bc,gM,kindOk] at h1;obtain⟨_,h2⟩:=h1;have g:bQ f p (f p) (f p).linksN=QC:=by
  split at h2
  ·simp[aO] at h2
   omega
  ·split at h2
   ·simp[aO] at h2
    omega
   ·split at h2
    ·simp only[ce,gM] at h2
     exact h2.2
    ·simp at h2
 have b:=jZ g j k;simp only[dJ,m,if_true,gM,j4,MP] at b;obtain⟨_,⟨⟨_,l⟩,h5⟩,d⟩:=b;exact⟨l,by omega,d⟩
theorem nZ {f:Nat->aj}{p n:Nat}(h:aQ f p n=QC):∀ i,i<n->(f i).name.toList≠(f p).name.toList:=by
 induction n with
 | zero=>intro i hi;omega
 | succ n b =>
  simp only[aQ,gM,Bool.not_eq_true',M9] at h;intro i hi;by_cases e:i=n
  ·subst e;exact h.2
  ·exact b h.1 i (by omega)
theorem jk {f:Nat->aj}{n:Nat}(h:aX f n=QC):∀ i j,i<n->j<n->(f i).name.toList=(f j).name.toList->i=j:=by
 have h1:(dr f n).1=0:=IU h;have h2:aJ (fun p=>aQ f p p) n=-1:=by
  unfold dr at h1;split at h1
  ·simp at h1
  ·split at h1
   ·simp at h1
   ·split at h1
    ·simp at h1
    ·rename_i d
     exact JR fun k=>d k
 have d:=dW h2;intro i j hi g e;rcases LR i j with b | rfl | b
 ·exact absurd e (nZ (d j g) i b)
 ·rfl
 ·exact absurd e.symm (nZ (d i hi) j b)
def xN:aj:={ name:=⟨#[]⟩,kind:=0,code:=0,text:=⟨#[]⟩,actN:=0,act:=fun _=>⟨0,⟨#[]⟩,0⟩,linksN:=0,links:=fun _=>⟨⟨#[]⟩,D,D,0⟩ }
def dF (L:List aj)(i:Nat):aj:=L.getD i xN
structure DBox (w:E)(b:Nat)(v0 v1 v2 v3 v4 v5:QB):Prop where
 lt:b<w.heap.size
 c0:w.cell? (J b 0 Z)=Q v0/\w.frozen? (J b 0 Z)=D
 c1:w.cell? (J b 1 Z)=Q v1/\w.frozen? (J b 1 Z)=D
 c2:w.cell? (J b 2 Z)=Q v2/\w.frozen? (J b 2 Z)=D
 c3:w.cell? (J b 3 Z)=Q v3/\w.frozen? (J b 3 Z)=D
 c4:w.cell? (J b 4 Z)=Q v4/\w.frozen? (J b 4 Z)=D
 c5:w.cell? (J b 5 Z)=Q v5/\w.frozen? (J b 5 Z)=D
theorem DBox.blk {w w':E}{b:Nat}{j g k i d l:QB}(h:DBox w b j g k i d l)(hz:w.heap.size<=w'.heap.size)(e:w'.heap[b]?=w.heap[b]?):DBox w' b j g k i d l :=
 have c:∀ o,w'.cell? (J b o Z)=w.cell? (J b o Z):=fun o=>cq (a:=(J b o Z)) e;have f:∀ o,w'.frozen? (J b o Z)=w.frozen? (J b o Z):=fun o=>DC (a:=(J b o Z)) e
 ⟨ll h.lt hz,⟨(c 0).trans h.c0.1,(f 0).trans h.c0.2⟩,⟨(c 1).trans h.c1.1,(f 1).trans h.c1.2⟩,⟨(c 2).trans h.c2.1,(f 2).trans h.c2.2⟩,⟨(c 3).trans h.c3.1,(f 3).trans h.c3.2⟩,⟨(c 4).trans h.c4.1,(f 4).trans h.c4.2⟩,⟨(c 5).trans h.c5.1,(f 5).trans h.c5.2⟩⟩
theorem DBox.below {w k:E}{b B:Nat}{i f j g d l:QB}(h:DBox w b i f j g d l)(hb:Below B w k)(m:b<B):DBox k b i f j g d l:=h.blk hb.size (hb.block b m)
theorem DBox.far {w:E}{b:Nat}{g d i f j k:QB}(h:DBox w b g d i f j k){p:Addr}(l:p.block≠b)(v:QB):DBox (w.setCell p v) b g d i f j k:=h.blk (by simp) (qh _ _ _ _ (fun e=>l e.symm))
theorem DBox.set4 {w:E}{b:Nat}{g d i f k j:QB}(h:DBox w b g d i f k j)(v:QB):DBox (w.setCell (J b 4 Z) v) b g d i f v j :=
 ⟨by simpa using h.lt,⟨(sq _ _ _ _ (by simp)).trans h.c0.1,by simpa using h.c0.2⟩,⟨(sq _ _ _ _ (by simp)).trans h.c1.1,by simpa using h.c1.2⟩,⟨(sq _ _ _ _ (by simp)).trans h.c2.1,by simpa using h.c2.2⟩,⟨(sq _ _ _ _ (by simp)).trans h.c3.1,by simpa using h.c3.2⟩,⟨AI _ _ _ (by rw[h.c4.1];rfl),by simpa using h.c4.2⟩,⟨(sq _ _ _ _ (by simp)).trans h.c5.1,by simpa using h.c5.2⟩⟩
theorem DBox.set5 {w:E}{b:Nat}{g d i f j k:QB}(h:DBox w b g d i f j k)(v:QB):DBox (w.setCell (J b 5 Z) v) b g d i f j v :=
 ⟨by simpa using h.lt,⟨(sq _ _ _ _ (by simp)).trans h.c0.1,by simpa using h.c0.2⟩,⟨(sq _ _ _ _ (by simp)).trans h.c1.1,by simpa using h.c1.2⟩,⟨(sq _ _ _ _ (by simp)).trans h.c2.1,by simpa using h.c2.2⟩,⟨(sq _ _ _ _ (by simp)).trans h.c3.1,by simpa using h.c3.2⟩,⟨(sq _ _ _ _ (by simp)).trans h.c4.1,by simpa using h.c4.2⟩,⟨AI _ _ _ (by rw[h.c5.1];rfl),by simpa using h.c5.2⟩⟩
theorem rA (w:E)(d i g b h f:QB)(t:QF):DBox (w.alloc (T #[d,i,g,b,h,f] t)) w.heap.size d i g b h f:=by refine⟨by simp,?_,?_,?_,?_,?_,?_⟩<;>simp
theorem zD (w:E)(g d h f b i u0 u1 u2 u3 u4 u5:QB)(t:QF):DBox ((w.alloc (T #[g,d,h,f,b,i] t)).alloc (T #[u0,u1,u2,u3,u4,u5] t)) w.heap.size g d h f b i/\DBox ((w.alloc (T #[g,d,h,f,b,i] t)).alloc (T #[u0,u1,u2,u3,u4,u5] t)) (w.heap.size+1) u0 u1 u2 u3 u4 u5:=by
 have hz:(w.alloc (T #[g,d,h,f,b,i] t)).heap.size=w.heap.size+1:=by simp
 refine⟨(rA w g d h f b i t).below ((eI (w.heap.size+1) _).alloc (by omega) _) (lj _),?_⟩;have:=rA (w.alloc (T #[g,d,h,f,b,i] t)) u0 u1 u2 u3 u4 u5 t;rw[hz] at this;exact this
end Go.Proofs.YtkdimgejdocbbaaGreatDoor.Vp
