import Derived.Test.YtkdimgejdocbbaaGreatDoorZD
import Derived.OneCell
import Derived.OwnWalk
import Derived.Maps.AppendAt
import Derived.Deep.RegionLaw
set_option maxRecDepth 100000
set_option maxHeartbeats 2000000
open Go.Addr renaming mk->J
open Go.Value renaming slice->Z,string->U,int->Q,bool->QA,agg->QE
open Option renaming none->Y,some->N
open Go.Obj renaming cells->T
open Go.IntKind renaming i64->I
open Go renaming World->E,Value->QB,TypeId->QF
open Bool renaming false->D,true->QC
open Go.Ending renaming returned->QD
namespace Go.Proofs.YtkdimgejdocbbaaGreatDoor.Vp
open RowKit
def bM (g:Nat->ByteArray):Nat->Bool
 | 0=>QC
 | k+1=>bM g k && au (g k)
theorem rx {g:Nat->ByteArray}{k n:Nat}(h:k<=n)(b:bM g n=QC):bM g k=QC:=by
 induction n with
 | zero =>
  obtain rfl:k=0:=by omega
  exact b
 | succ m d =>
  by_cases e:k=m+1
  ·subst e;exact b
  ·simp only[bM,gM] at b
   exact d (by omega) b.1
theorem io {g:Nat->ByteArray}{k n:Nat}(h:k<n)(b:au (g k)=D):bM g n=D:=by
 cases e:bM g n with
 | false=>rfl
 | true =>have h2:=rx (show k+1<=n by omega) e;simp[bM,b] at h2
theorem vQ (a0 a1:Option Addr)(n0 c0 n1 c1:Nat)(w:E)(h0:(n0:Int)<=1048576)(h1:(n1:Int)<=1048576):Calls Tryz.prog 70 #[QE #[Z a0 n0 c0,Z a1 n1 c1]] w fun e b=>e=QD (Q I ((n0:Int)+n1))/\Below w.heap.size w b:=by go_enter Tryz.func70,Tryz.ntmps70;go_wp2;go_ret;exact⟨rfl,br.alloc lr _⟩
theorem ry (b off n o:Nat)(g:Nat->ByteArray)(w:E)(hn:(n:Int)<=1048576)(m:RowStr w b off n g):Calls Tryz.prog 73 #[Z (N (J b off Y)) n o] w fun e r=>e=QD (QA (bM g n))/\Below w.heap.size w r:=by
 have s:=ae m;clear m;go_enter Tryz.func73,Tryz.ntmps73;go_wp2;go_loopw [7] (fun i wr=>∃ k:Nat,k<=n/\i=Q I k/\Hid (bM g k=QC)/\Below w.heap.size w wr) (fun i _=>n - (intOf i).toNat);case atStart=>exact⟨0,by omega,rfl,rfl,eI _ _⟩
 case round =>
  obtain⟨k,hk,rfl,q,p⟩:=hrel;have d:=ae p;clear p;by_cases h:k<n
  ·have c0:=(s.below d lr).2 k h
   go_wp2_with fail;refine(eO _ _).mono ?_;rintro e w1 ⟨rfl,f⟩;have l:=ae (d.trans (f.mono d.size));clear f;cases hq:au (g k) with
   | true =>have j:=ae hq;clear hq;go_wp2;exact⟨⟨k+1,by omega,by go_num,by show bM g (k+1)=QC;simp[bM,q.out,j.out],l.out⟩,by simp[intOf];omega⟩
   | false =>have j:=ae hq;clear hq;go_wp2;go_ret;exact⟨aW (io h j).symm,l⟩
  ·have e:k=n:=by omega
   subst e;go_wp2;go_ret;exact⟨aW q.symm,d⟩
theorem rz (a:Option Addr)(b:Nat)(w:E):Calls Tryz.prog 73 #[Z a 0 b] w fun e d=>e=QD (QA QC)/\d=w:=by
 go_enter Tryz.func73,Tryz.ntmps73;go_wp2;go_loop [7] (fun i=>i=Q I 0) (fun _=>0);case atStart=>rfl
 case round =>subst hrel;go_wp2;go_ret;exact⟨rfl,rfl⟩
theorem lK (a:Option Addr)(n d:Nat)(g:Nat->ByteArray)(w:E)(i:(n:Int)<=1048576)(f:SlStr w a n g):Calls Tryz.prog 73 #[Z a n d] w fun e h=>e=QD (QA (bM g n))/\Below w.heap.size w h:=by
 rcases f with rfl | ⟨b,off,rfl,f⟩
 ·exact(rz a d w).mono fun e h ⟨p,q⟩=>⟨p,by rw[q];exact eI _ _⟩
 ·exact ry b off n d g w i f
def aE (g:Nat->ByteArray):Nat->Bool
 | 0=>QC
 | 1=>QC
 | k+2=>aE g (k+1) && Op.bytesLess (g k).toList (g (k+1)).toList
theorem fu {g:Nat->ByteArray}{k n:Nat}(h:k<=n)(b:aE g n=QC):aE g k=QC:=by
 induction n with
 | zero =>
  obtain rfl:k=0:=by omega
  exact b
 | succ m d =>
  by_cases e:k=m+1
  ·subst e;exact b
  ·cases m with
   | zero =>
    obtain rfl:k=0:=by omega
    rfl
   | succ j =>simp only[aE,gM] at b;exact d (by omega) b.1
theorem jz {g:Nat->ByteArray}{k n:Nat}(h:k+1<n)(b:Op.bytesLess (g k).toList (g (k+1)).toList=D):aE g n=D:=by
 cases e:aE g n with
 | false=>rfl
 | true =>have h2:=fu (show k+2<=n by omega) e;simp[aE,b] at h2
theorem qF (b off n m:Nat)(g:Nat->ByteArray)(w:E)(hn:(n:Int)<=1048576)(l:RowStr w b off n g):Calls Tryz.prog 74 #[Z (N (J b off Y)) n m] w fun e r=>e=QD (QA (aE g n))/\Below w.heap.size w r:=by
 have q:=ae l;clear l;go_enter Tryz.func74,Tryz.ntmps74;go_wp2;go_loopw [3] (fun i wr=>∃ k:Nat,(k+1<=n∨k=0)/\i=Q I ((k:Int)+1)/\Hid (aE g (k+1)=QC)/\Below w.heap.size w wr) (fun i _=>n+1 - (intOf i).toNat);case atStart=>exact⟨0,.inr rfl,rfl,rfl,eI _ _⟩
 case round =>
  obtain⟨k,hk,rfl,p,o⟩:=hrel;have d:=ae o;clear o;by_cases f:k+1<n
  ·have c0:=(q.below d lr).2 k (by omega)
   have c1:=(q.below d lr).2 (k+1) f;have hlt':(k:Int)+1<n:=by omega
   go_wp2_with fail;go_quiet (fail);have h:=ae (xT d nq);clear c0 c1;generalize wr.drewN nq=W at h ⊢;cases hq:Op.bytesLess (g k).toList (g (k+1)).toList with
   | true =>have j:=ae hq;clear hq;go_wp2;exact⟨⟨k+1,.inl (by omega),by go_num,by show aE g (k+2)=QC;simp[aE,p.out,j.out],h.out⟩,by simp[intOf];omega⟩
   | false =>have j:=ae hq;clear hq;go_wp2;go_ret;exact⟨aW (jz f j).symm,h⟩
  ·have hge:¬ (k:Int)+1<n:=by omega
   go_wp2;go_ret;exact⟨aW (fu (show n<=k+1 by omega) p.out).symm,d.out⟩
end Go.Proofs.YtkdimgejdocbbaaGreatDoor.Vp
namespace Go.Proofs.YtkdimgejdocbbaaGreatDoor.Vp
theorem bA {P:Program}{w:E}{r:Array Oper}{o:Oper}{a:Act}{K:Act->E->Prop}{QM:Exit->Act->E->Prop}{QP:Prop}(QJ:o.guard=Y)(s x:Operand)(t:QF)
  (O:o.op=.call { callee:=.builtin .append,args:=#[s,x],argTypes:=#[t,t] })
  (d:Nat) (e:QF) (i:TypeInfo) (z:QB) (size b:Nat) (L:P.underlying t=N (.slice e)) (hi:P.info? e=N i) (hz:i.zero=N z)
  (p:i.size=size) (G:i.bytes=b) (C:z.cells.size=size) (H:0<size)
  (v:QB) (n:Nat) (y:List QB) (QO:a.eval s=v) (A:w.ownsRow d e size v n y)
  (B:Addr) (m c:Nat) (news:List QB) (R:a.eval x=Z (N B) m c) (QN:news.length=m*size) (l:∀ j u,news[j]?=N u->w.cell? (B.add j)=N u) (h1:∀ u∈news,u.oneCell'=QC)
  (QQ:n+m<=maxLen) (k:(n+m)*b<=140737488355328) (q:d<=w.heap.size)
  (h:∀ f g,g.ownsRow d e size f (n+m) (y++news)->w.grownBy g v.ownBlock->(f.ownBlock=v.ownBlock∨f.ownBlock=N w.heap.size)->K (a.put o.dst f) g) :
  if Region.wanted o (yielded r a.tmps)=QC then Oper.wp P o a w K QM else QP:=by
 have QK:Region.wanted o (yielded r a.tmps)=QC:=by simp[Region.wanted,QJ]
 rw[eT QK];obtain⟨f,g,M,h2,QL,h4,S⟩:=run_append_own_at (P:=P) w d t o.type e i z size b L hi hz p G C H v n y A B m c news QN l h1 QQ k q;unfold Oper.wp execOp;simp only[O,resolve,invoke,builtin,Sem.run_bind,Sem.run_pure,Result.andThen_ok,List.map_toArray,LG,LV,QO,R,M];exact h f g h2 QL S
theorem bu {P:Program}(w:E){r:Array Oper}{rest:List Oper}{o:Oper}{a:Act}{QM:Exit->Act->E->Prop}(S:o.guard=Y)(s x:Operand)(t:QF)
  (QL:o.op=.call { callee:=.builtin .append,args:=#[s,x],argTypes:=#[t,t] })
  (d:Nat) (e:QF) (i:TypeInfo) (z:QB) (size b:Nat) (K:P.underlying t=N (.slice e)) (hi:P.info? e=N i) (hz:i.zero=N z)
  (p:i.size=size) (QP:i.bytes=b) (C:z.cells.size=size) (G:0<size)
  (v:QB) (n:Nat) (y:List QB) (QO:a.eval s=v) (A:w.ownsRow d e size v n y)
  (B:Addr) (m c:Nat) (news:List QB) (O:a.eval x=Z (N B) m c) (QN:news.length=m*size) (l:∀ j u,news[j]?=N u->w.cell? (B.add j)=N u) (h1:∀ u∈news,u.oneCell'=QC)
  (QQ:n+m<=maxLen) (k:(n+m)*b<=140737488355328) (q:d<=w.heap.size)
  (h:∀ f g,g.ownsRow d e size f (n+m) (y++news)->w.grownBy g v.ownBlock->(f.ownBlock=v.ownBlock∨f.ownBlock=N w.heap.size)->wpList P r QM rest (a.put o.dst f) g) :
  wpList P r QM (o :: rest) a w:=by
 refine wpList_plain S fun K' H=>?_;obtain⟨f,g,L,h2,M,h4,R⟩:=run_append_own_at (P:=P) w d t o.type e i z size b K hi hz p QP C G v n y A B m c news QN l h1 QQ k q;unfold Oper.wp execOp;simp only[QL,resolve,invoke,builtin,Sem.run_bind,Sem.run_pure,Result.andThen_ok,List.map_toArray,LG,LV,QO,O,L];exact H _ _ (h f g h2 M R)
end Go.Proofs.YtkdimgejdocbbaaGreatDoor.Vp
namespace Go.Proofs.YtkdimgejdocbbaaGreatDoor.Vp
open RowKit
theorem dh (w:E)(x:QB)(t:QF):∀ j u,[x][j]?=N u->(w.alloc (T #[x] t)).cell? (((J w.heap.size 0 Y):Addr).add j)=N u:=by
 intro j u b;match j,b with
 | 0,b=>simp at b;subst b;simp[Addr.add]
theorem cZ {P:Program}{w:E}{p:Array Oper}{o:Oper}{a:Act}{K:Act->E->Prop}{QM:Exit->Act->E->Prop}{QP:Prop}(R:o.guard=Y)(s x:Operand)(t:QF)
  (M:o.op=.call { callee:=.builtin .append,args:=#[s,x],argTypes:=#[t,t] })
  (d:Nat) (e:QF) (i:TypeInfo) (z:QB) (size b:Nat) (L:P.underlying t=N (.slice e)) (hi:P.info? e=N i) (hz:i.zero=N z)
  (k:i.size=size) (G:i.bytes=b) (C:z.cells.size=size) (H:0<size)
  (v:QB) (n:Nat) (q:List QB) (QO:a.eval s=v) (r:w.ownsRow d e size v n q)
  (A:Addr) (m c:Nat) (news:List QB) (QL:a.eval x=Z (N A) m c) (QN:news.length=m*size) (g:∀ j u,news[j]?=N u->w.cell? (A.add j)=N u) (h1:∀ u∈news,u.oneCell'=QC)
  (QQ:n+m<=maxLen) (f:(n+m)*b<=140737488355328) (l:d<=w.heap.size)
  (h:∀ B y,y.ownsRow d e size B (n+m) (q++news)->w.grownBy y v.ownBlock->(B=Z Y 0 0 ↔ v=Z Y 0 0/\m=0)->K (a.put o.dst B) y) :
  if Region.wanted o (yielded p a.tmps)=QC then Oper.wp P o a w K QM else QP:=by
 have O:Region.wanted o (yielded p a.tmps)=QC:=by simp[Region.wanted,R]
 rw[eT O];exact wp_append_own w s x t M d e i z size b L hi hz k G C H v n q QO r A m c news QL QN g h1 QQ f l h
theorem own_below {w f:E}{b B:Nat}{e:QF}{size n:Nat}{v:QB}{d:List QB}(h:w.ownsRow b e size v n d)(hb:Below B w f)(g:w.heap.size<=B):f.ownsRow b e size v n d :=
 h.kept (row:=Y) ⟨hb.os,hb.tape,hb.output,hb.size,fun k i _=>hb.block k (ll i g)⟩ (by cases v.ownBlock<;>simp)
theorem aI {w:E}{b base':Nat}{e:QF}{size n:Nat}{v:QB}{d:List QB}(h:w.ownsRow b e size v n d)(hb:base'<=b):w.ownsRow base' e size v n d:=by
 refine⟨h.1,?_⟩;rcases h.2 with h | ⟨g,f,i,j,k,r⟩
 ·exact .inl h
 ·exact .inr ⟨g,f,i,j,j5 hb k,r⟩
theorem jA (W:E)(b:Array QB)(ty:QF)(g j:Nat)(v:QB)(f:g=W.heap.size)(d:b[j]?=N v):(W.alloc (T b ty)).cell? (J g j Y)=N v:=by subst f;simp[d]
theorem gw {w:E}{d n:Nat}{e:QF}{v:QB}{f:List QB}(h:w.ownsRow d e 1 v n f)(hn:0<n):∃ g b,v=Z (N (J g 0 Y)) n b:=by
 rcases h.2 with ⟨_,h0⟩ | ⟨g,b,cur,i,_⟩
 ·omega
 ·exact⟨g,b,i⟩
def kf (g:Nat->ByteArray)(n:Nat):List QB:=(List.range n).map fun i=>U (g i)
theorem pG (g:Nat->ByteArray)(n:Nat):kf g (n+1)=kf g n++[U (g n)]:=by simp[kf,JB]
theorem xM {w:E}{f n:Nat}{e:QF}{v:QB}{g:Nat->ByteArray}(h:w.ownsRow f e 1 v n (kf g n)):∃ a d,v=Z a n d/\SlStr w a n g:=by
 rcases h.2 with ⟨rfl,rfl⟩ | ⟨b,d,cur,rfl,hb,k,_⟩
 ·exact⟨Y,0,rfl,.inl rfl⟩
 ·refine⟨_,d,rfl,.inr ⟨b,0,rfl,lt_of_block k,fun i hi=>?_⟩⟩
  have:=h.cells (g:=b) rfl i (U (g i)) (by simp[kf,hi]);rw[DC];have j:((J b 0 Y):Addr).add i=(J b i Y):=by unfold Addr.add;split<;>simp_all
  rwa[j] at this
theorem nT (b off n c0:Nat)(r:QB)(a1:Option Addr)(n1 c1:Nat)(y:r=Z a1 n1 c1)(f:Nat->Source)(w:E)(hn:(n:Int)<=1048576)(x:RowSource w b off n f):Calls Tryz.prog 71 #[QE #[Z (N (J b off Y)) n c0,r]] w fun e u=>∃ a h,e=QD (Z a n h)/\SlStr u a n (fun i=>(f i).name)/\Below w.heap.size w u:=by
 subst y;have z:=ae x;clear x;obtain⟨QP,hi,t,B,QQ⟩:=IS fW;have QO:=ae ((Qs w).alloc lr (T #[Z (N (J b off Y)) n c0,Z a1 n1 c1] 26));go_enter Tryz.func71,Tryz.ntmps71;go_wp2;go_loopw [3,9] (fun v i wr=>∃ k:Nat,k<=n/\i=Q I k/\Hid (wr.ownsRow w.heap.size 9 1 v k (kf (fun i=>(f i).name) k))/\Below w.heap.size w wr) (fun _ i _=>n - (intOf i).toNat);case atStart=>exact⟨0,by omega,rfl,H7 _ _ _ _,QO⟩
 case round =>
  obtain⟨k,hk,rfl,m,q⟩:=hrel;have p:=ae q;have C:w.heap.size<=wr.heap.size:=q.size;clear q;by_cases A:k<n
  ·obtain⟨d0,d1⟩:=(z.2 k A).below p z.1
   go_wp2_with (at_builtin;refine CD _ rfl (.tmp 13) (.tmp 16) 39 rfl w.heap.size 9 QP (U ⟨#[]⟩) 1 16 Tryz.underlying39 hi t B QQ rfl (by decide) _ k (kf (fun i=>(f i).name) k) (by simp[Act.eval]) ((m.alloc _).alloc _) (J (wr.heap.size+1) 0 Y) 1 1 [U (f k).name] (by simp[Act.eval]) rfl (by rw[show wr.heap.size+1=(wr.alloc (T #[U (f k).name,U (f k).text] 104)).heap.size by simp];exact dh _ _ _) (by simp[Value.oneCell']) (by unfold maxLen;omega) (by omega) (by simp;omega) ?_;intro v' w2 g d o;have H:=ae g;have G:=ae (bg ((p.alloc C (T #[U (f k).name,U (f k).text] 104)).alloc (by simp;omega) (T #[U (f k).name] 9)) d (by simp;omega) (fun j e=>(m.lt j e).1));clear g d o);exact⟨⟨k+1,by omega,by go_num,by show World.ownsRow _ _ _ _ _ _ _;rw[pG];exact H,G⟩,by simp[intOf];omega⟩
  ·have e:k=n:=by omega
   subst e;obtain⟨a,h,rfl,l⟩:=xM m;have s:=ae l;clear l;go_wp2;go_ret;exact⟨a,h,rfl,s,p⟩
theorem nU (a0:Option Addr)(c0:Nat)(a1:Option Addr)(n1 c1:Nat)(g:Nat->ByteArray)(w:E):Calls Tryz.prog 71 #[QE #[Z a0 0 c0,Z a1 n1 c1]] w fun e b=>∃ a d,e=QD (Z a 0 d)/\SlStr b a 0 g/\Below w.heap.size w b:=by
 have j:=ae ((Qs w).alloc lr (T #[Z a0 0 c0,Z a1 n1 c1] 26));go_enter Tryz.func71,Tryz.ntmps71;go_wp2;go_loopw [3,9] (fun v i wr=>v=Z Y 0 0/\i=Q I 0/\Below w.heap.size w wr) (fun _ _ _=>0);case atStart=>exact⟨rfl,rfl,j⟩
 case round =>obtain⟨rfl,rfl,f⟩:=hrel;have h:=ae f;clear f;go_wp2;go_ret;exact⟨Y,0,rfl,.inl rfl,h⟩
theorem nV (a0:Option Addr)(n c0:Nat)(a1:Option Addr)(n1 c1:Nat)(f:Nat->Source)(w:E)(j:(n:Int)<=1048576)(d:SlSource w a0 n f):Calls Tryz.prog 71 #[QE #[Z a0 n c0,Z a1 n1 c1]] w fun e g=>∃ a h,e=QD (Z a n h)/\SlStr g a n (fun i=>(f i).name)/\Below w.heap.size w g:=by
 rcases d with rfl | ⟨b,off,rfl,d⟩
 ·exact nU a0 c0 a1 n1 c1 _ w
 ·exact nT b off n c0 _ a1 n1 c1 rfl f w j d
theorem nW (b off n c0:Nat)(r:QB)(a1:Option Addr)(n1 c1:Nat)(A:r=Z a1 n1 c1)(f:Nat->Target)(w:E)(hn:(n:Int)<=1048576)(z:RowTarget w b off n f):Calls Tryz.prog 72 #[QE #[r,Z (N (J b off Y)) n c0]] w fun e y=>∃ a h,e=QD (Z a n h)/\SlStr y a n (fun i=>(f i).name)/\Below w.heap.size w y:=by
 subst A;have B:=ae z;clear z;obtain⟨H,hi,u,QQ,G⟩:=IS fW;have K:=ae ((Qs w).alloc lr (T #[Z a1 n1 c1,Z (N (J b off Y)) n c0] 26));go_enter Tryz.func72,Tryz.ntmps72;go_wp2;go_loopw [3,9] (fun v i wr=>∃ k:Nat,k<=n/\i=Q I k/\Hid (wr.ownsRow w.heap.size 9 1 v k (kf (fun i=>(f i).name) k))/\Below w.heap.size w wr) (fun _ i _=>n - (intOf i).toNat);case atStart=>exact⟨0,by omega,rfl,H7 _ _ _ _,K⟩
 case round =>
  obtain⟨k,hk,rfl,m,q⟩:=hrel;have p:=ae q;have QP:w.heap.size<=wr.heap.size:=q.size;clear q;by_cases C:k<n
  ·obtain⟨d0,t,s,d1,_⟩:=(B.2 k C).below p lr B.1
   go_wp2_with (at_builtin;refine CD _ rfl (.tmp 13) (.tmp 16) 39 rfl w.heap.size 9 H (U ⟨#[]⟩) 1 16 Tryz.underlying39 hi u QQ G rfl (by decide) _ k (kf (fun i=>(f i).name) k) (by simp[Act.eval]) ((m.alloc _).alloc _) (J (wr.heap.size+1) 0 Y) 1 1 [U (f k).name] (by simp[Act.eval]) rfl (by rw[show wr.heap.size+1=(wr.alloc (T #[U (f k).name,Z t (f k).actN s] 108)).heap.size by simp];exact dh _ _ _) (by simp[Value.oneCell']) (by unfold maxLen;omega) (by omega) (by simp;omega) ?_;intro v' w2 g d o;have QN:=ae g;have QO:=ae (bg ((p.alloc QP (T #[U (f k).name,Z t (f k).actN s] 108)).alloc (by simp;omega) (T #[U (f k).name] 9)) d (by simp;omega) (fun j e=>(m.lt j e).1));clear g d o);exact⟨⟨k+1,by omega,by go_num,by show World.ownsRow _ _ _ _ _ _ _;rw[pG];exact QN,QO⟩,by simp[intOf];omega⟩
  ·have e:k=n:=by omega
   subst e;obtain⟨a,h,rfl,l⟩:=xM m;have x:=ae l;clear l;go_wp2;go_ret;exact⟨a,h,rfl,x,p⟩
theorem nX (a0:Option Addr)(c0:Nat)(a1:Option Addr)(n1 c1:Nat)(g:Nat->ByteArray)(w:E):Calls Tryz.prog 72 #[QE #[Z a1 n1 c1,Z a0 0 c0]] w fun e b=>∃ a d,e=QD (Z a 0 d)/\SlStr b a 0 g/\Below w.heap.size w b:=by
 have j:=ae ((Qs w).alloc lr (T #[Z a1 n1 c1,Z a0 0 c0] 26));go_enter Tryz.func72,Tryz.ntmps72;go_wp2;go_loopw [3,9] (fun v i wr=>v=Z Y 0 0/\i=Q I 0/\Below w.heap.size w wr) (fun _ _ _=>0);case atStart=>exact⟨rfl,rfl,j⟩
 case round =>obtain⟨rfl,rfl,f⟩:=hrel;have h:=ae f;clear f;go_wp2;go_ret;exact⟨Y,0,rfl,.inl rfl,h⟩
theorem nY (a0:Option Addr)(n c0:Nat)(a1:Option Addr)(n1 c1:Nat)(f:Nat->Target)(w:E)(j:(n:Int)<=1048576)(d:SlTarget w a0 n f):Calls Tryz.prog 72 #[QE #[Z a1 n1 c1,Z a0 n c0]] w fun e g=>∃ a h,e=QD (Z a n h)/\SlStr g a n (fun i=>(f i).name)/\Below w.heap.size w g:=by
 rcases d with rfl | ⟨b,off,rfl,d⟩
 ·exact nX a0 c0 a1 n1 c1 _ w
 ·exact nW b off n c0 _ a1 n1 c1 rfl f w j d
theorem uD (w:E)(e:QF)(size:Nat):(w.alloc (T #[] e)).ownsRow w.heap.size e size (Z (N (J w.heap.size 0 Y)) 0 0) 0 [] :=
 ⟨by simp,.inr ⟨w.heap.size,0,#[],rfl,j6 _,eL w _,j6 _,by unfold maxLen;omega,by simp,by simp⟩⟩
def aX (f:Nat->aj)(n:Nat):Bool:=decide ((dr f n).1=0)
theorem dU {f:Nat->aj}{n:Nat}(h:aX f n=QC):1<=n/\n<=400/\aJ (bc f) n=-1:=by
 have h1:(dr f n).1=0:=IW h;unfold dr at h1;split at h1
 ·simp at h1
 ·rename_i h2
  refine⟨by omega,by omega,?_⟩;split at h1
  ·simp at h1
  ·rename_i d
   exact JS fun b=>d b
theorem gP {f:Nat->aj}{n:Nat}(h:aX f n=QC):∀ p,p<n->(f p).linksN<=200:=by
 intro p b;have h1:=dW (dU h).2.2 p b;simp only[bc,gM,kindOk] at h1;obtain⟨_,h2⟩:=h1;split at h2
 ·simp[aO] at h2
  omega
 ·split at h2
  ·simp[aO] at h2
   omega
  ·split at h2
   ·simp[ce] at h2
    omega
   ·simp at h2
theorem gX {f:Nat->aj}{n:Nat}(h:aX f n=QC):∀ p,p<n->∀ j,j<(f p).linksN->((f p).links j).ask=QC->0<=((f p).links j).at_/\((f p).links j).at_.toNat<p/\(f ((f p).links j).at_.toNat).name.toList=((f p).links j).name.toList:=by
 intro p g j l k;have h1:=dW (dU h).2.2 p g;simp only[bc,gM,kindOk] at h1;obtain⟨_,h2⟩:=h1;have i:bQ f p (f p) (f p).linksN=QC:=by
  split at h2
  ·simp[aO] at h2
   omega
  ·split at h2
   ·simp[aO] at h2
    omega
   ·split at h2
    ·simp only[ce,gM] at h2
     exact h2.2
    ·simp at h2
 have b:=jZ i j l;simp only[dJ,k,if_true,gM,j4,MU] at b;obtain⟨_,⟨⟨_,m⟩,h5⟩,d⟩:=b;exact⟨m,by omega,d⟩
theorem nZ {f:Nat->aj}{p n:Nat}(h:aQ f p n=QC):∀ i,i<n->(f i).name.toList≠(f p).name.toList:=by
 induction n with
 | zero=>intro i hi;omega
 | succ n b =>
  simp only[aQ,gM,Bool.not_eq_true',NC] at h;intro i hi;by_cases e:i=n
  ·subst e;exact h.2
  ·exact b h.1 i (by omega)
theorem jk {f:Nat->aj}{n:Nat}(h:aX f n=QC):∀ i j,i<n->j<n->(f i).name.toList=(f j).name.toList->i=j:=by
 have h1:(dr f n).1=0:=IW h;have h2:aJ (fun p=>aQ f p p) n=-1:=by
  unfold dr at h1;split at h1
  ·simp at h1
  ·split at h1
   ·simp at h1
   ·split at h1
    ·simp at h1
    ·rename_i d
     exact JS fun g=>d g
 have d:=dW h2;intro i j hi k e;rcases LX i j with b | rfl | b
 ·exact absurd e (nZ (d j k) i b)
 ·rfl
 ·exact absurd e.symm (nZ (d i hi) j b)
def xN:aj:={ name:=⟨#[]⟩,kind:=0,code:=0,text:=⟨#[]⟩,actN:=0,act:=fun _=>⟨0,⟨#[]⟩,0⟩,linksN:=0,links:=fun _=>⟨⟨#[]⟩,D,D,0⟩ }
def dF (L:List aj)(i:Nat):aj:=L.getD i xN
structure DBox (w:E)(b:Nat)(v0 v1 v2 v3 v4 v5:QB):Prop where
 lt:b<w.heap.size
 c0:w.cell? (J b 0 Y)=N v0/\w.frozen? (J b 0 Y)=D
 c1:w.cell? (J b 1 Y)=N v1/\w.frozen? (J b 1 Y)=D
 c2:w.cell? (J b 2 Y)=N v2/\w.frozen? (J b 2 Y)=D
 c3:w.cell? (J b 3 Y)=N v3/\w.frozen? (J b 3 Y)=D
 c4:w.cell? (J b 4 Y)=N v4/\w.frozen? (J b 4 Y)=D
 c5:w.cell? (J b 5 Y)=N v5/\w.frozen? (J b 5 Y)=D
theorem DBox.blk {w w':E}{b:Nat}{l i d g k j:QB}(h:DBox w b l i d g k j)(hz:w.heap.size<=w'.heap.size)(e:w'.heap[b]?=w.heap[b]?):DBox w' b l i d g k j :=
 have c:∀ o,w'.cell? (J b o Y)=w.cell? (J b o Y):=fun o=>cq (a:=(J b o Y)) e;have f:∀ o,w'.frozen? (J b o Y)=w.frozen? (J b o Y):=fun o=>DN (a:=(J b o Y)) e
 ⟨ll h.lt hz,⟨(c 0).trans h.c0.1,(f 0).trans h.c0.2⟩,⟨(c 1).trans h.c1.1,(f 1).trans h.c1.2⟩,⟨(c 2).trans h.c2.1,(f 2).trans h.c2.2⟩,⟨(c 3).trans h.c3.1,(f 3).trans h.c3.2⟩,⟨(c 4).trans h.c4.1,(f 4).trans h.c4.2⟩,⟨(c 5).trans h.c5.1,(f 5).trans h.c5.2⟩⟩
theorem DBox.below {w j:E}{b B:Nat}{l g d f k i:QB}(h:DBox w b l g d f k i)(hb:Below B w j)(m:b<B):DBox j b l g d f k i:=h.blk hb.size (hb.block b m)
theorem DBox.far {w:E}{b:Nat}{k g d f j i:QB}(h:DBox w b k g d f j i){p:Addr}(l:p.block≠b)(v:QB):DBox (w.setCell p v) b k g d f j i:=h.blk (by simp) (qh _ _ _ _ (fun e=>l e.symm))
theorem DBox.set4 {w:E}{b:Nat}{j g d f k i:QB}(h:DBox w b j g d f k i)(v:QB):DBox (w.setCell (J b 4 Y) v) b j g d f v i :=
 ⟨by simpa using h.lt,⟨(sq _ _ _ _ (by simp)).trans h.c0.1,by simpa using h.c0.2⟩,⟨(sq _ _ _ _ (by simp)).trans h.c1.1,by simpa using h.c1.2⟩,⟨(sq _ _ _ _ (by simp)).trans h.c2.1,by simpa using h.c2.2⟩,⟨(sq _ _ _ _ (by simp)).trans h.c3.1,by simpa using h.c3.2⟩,⟨AI _ _ _ (by rw[h.c4.1];rfl),by simpa using h.c4.2⟩,⟨(sq _ _ _ _ (by simp)).trans h.c5.1,by simpa using h.c5.2⟩⟩
theorem DBox.set5 {w:E}{b:Nat}{j g d f i k:QB}(h:DBox w b j g d f i k)(v:QB):DBox (w.setCell (J b 5 Y) v) b j g d f i v :=
 ⟨by simpa using h.lt,⟨(sq _ _ _ _ (by simp)).trans h.c0.1,by simpa using h.c0.2⟩,⟨(sq _ _ _ _ (by simp)).trans h.c1.1,by simpa using h.c1.2⟩,⟨(sq _ _ _ _ (by simp)).trans h.c2.1,by simpa using h.c2.2⟩,⟨(sq _ _ _ _ (by simp)).trans h.c3.1,by simpa using h.c3.2⟩,⟨(sq _ _ _ _ (by simp)).trans h.c4.1,by simpa using h.c4.2⟩,⟨AI _ _ _ (by rw[h.c5.1];rfl),by simpa using h.c5.2⟩⟩
theorem rA (w:E)(b i d h g f:QB)(t:QF):DBox (w.alloc (T #[b,i,d,h,g,f] t)) w.heap.size b i d h g f:=by refine⟨by simp,?_,?_,?_,?_,?_,?_⟩<;>simp
theorem zD (w:E)(i f b d h g u0 u1 u2 u3 u4 u5:QB)(t:QF):DBox ((w.alloc (T #[i,f,b,d,h,g] t)).alloc (T #[u0,u1,u2,u3,u4,u5] t)) w.heap.size i f b d h g/\DBox ((w.alloc (T #[i,f,b,d,h,g] t)).alloc (T #[u0,u1,u2,u3,u4,u5] t)) (w.heap.size+1) u0 u1 u2 u3 u4 u5:=by
 have hz:(w.alloc (T #[i,f,b,d,h,g] t)).heap.size=w.heap.size+1:=by simp
 refine⟨(rA w i f b d h g t).below ((eI (w.heap.size+1) _).alloc (by omega) _) (lj _),?_⟩;have:=rA (w.alloc (T #[i,f,b,d,h,g] t)) u0 u1 u2 u3 u4 u5 t;rw[hz] at this;exact this
end Go.Proofs.YtkdimgejdocbbaaGreatDoor.Vp
