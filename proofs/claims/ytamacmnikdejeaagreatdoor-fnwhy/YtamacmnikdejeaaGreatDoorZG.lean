import Derived.Test.YtamacmnikdejeaaGreatDoorZE
import Derived.Laws.StructEq
set_option maxRecDepth 100000
set_option maxHeartbeats 2000000
open Go.Addr renaming mk->T
open Go.Value renaming slice->Y,string->U,int->I,bool->QT,agg->QV
open Option renaming none->Z,some->N
open Go.Obj renaming cells->Q
open Go.IntKind renaming i64->J
open Go renaming World->H
open Bool renaming false->QQ,true->QR
open Go.Ending renaming returned->QU
namespace Go.Proofs.YtamacmnikdejeaaGreatDoor.Vp
open RowKit
theorem sK (x y:Ins)(w:H):(binOp .neq 146 (QV #[I J x.op,U x.s,I J x.n]) (QV #[I J y.op,U y.s,I J y.n])).run Tryz.prog w=.ok (QT (!iX x y)) w:=by
 have f:Tryz.prog.underlying 146=N (.struct (Tryz.prog.fieldsOf 146)):=by kernel_rfl
 have b:Tryz.prog.stoodInHeld 146=QQ:=by kernel_rfl
 rw[run_neq_struct,show(10000:Nat)=9999+1 from rfl,run_equalIn_agg w 9999 146 _ _ f b];simp only[Program.fieldsOf,Tryz.underlying146];go_simp;unfold iX;by_cases h1:x.op=y.op<;>by_cases h2:x.s.toList=y.s.toList<;>by_cases c:x.n=y.n<;>simp[h1,h2,c]
theorem sL (b off n cap:Nat)(f:Nat->Ins)(y h o:Nat)(g:Nat->Ins)(w:H)(hn:n<=1048576)(s:RowIns w b off n f)(x:RowIns w y h n g):Calls Tryz.prog 119 #[Y (N (T b off Z)) n cap,Y (N (T y h Z)) n o] w fun e D=>e=QU (QT (cA f g n))/\∃ m,D=w.drewN m:=by
 have F:=ae s;have A:=ae x;clear s x;go_enter Tryz.func119,Tryz.ntmps119;go_wp2;go_loopw [13] (fun i wr=>∃ k:Nat,k<=n/\i=I J k/\Hid (cA f g k=QR)/\Hid (∃ q,wr=w.drewN q)) (fun i _=>n - (intOf i).toNat);case atStart=>exact⟨0,by omega,rfl,rfl,0,rfl⟩
 case round =>
  obtain⟨k,hk,rfl,t,r⟩:=hrel;have z:Hid (Below w.heap.size w wr):=by obtain⟨q,l⟩:=r.out;rw[l];exact F6 br q
  by_cases c:k<n
  ·obtain⟨c0,c1,c2⟩:=(F.out.below z.out ly).2 k c
   obtain⟨B,E,C⟩:=(A.out.below z.out ly).2 k c;have hlt2:(k:Int)<n:=by omega
   have u:=sK (f k) (g k);go_wp2_with fail;go_quiet (fail);have p:Hid (∃ q,wr.drewN nq=w.drewN q):=by obtain⟨q,l⟩:=r.out;exact⟨q+nq,by rw[l,World.drewN_drewN]⟩
   clear c0 c1 c2 B E C u;generalize wr.drewN nq=W at p ⊢;cases hb:iX (f k) (g k) with
   | true =>have j:=ae hb;clear hb;go_wp2;exact⟨⟨k+1,by omega,by go_num,by show cA f g (k+1)=QR;rw[cA,t.out,j.out];rfl,p.out⟩,by simp[intOf];omega⟩
   | false =>have j:=ae hb;clear hb;go_wp2;go_ret;exact⟨bm (ki c j.out).symm,p.out⟩
  ·obtain rfl:k=n:=by omega
   go_wp2;go_ret;exact⟨bm t.out.symm,r.out⟩
theorem mG (a:Option Addr)(cap:Nat)(c:Option Addr)(b:Nat)(w:H):Calls Tryz.prog 119 #[Y a 0 cap,Y c 0 b] w fun e f=>e=QU (QT QR)/\f=w:=by
 go_enter Tryz.func119,Tryz.ntmps119;go_wp2;go_loop [13] (fun i=>i=I J 0) (fun _=>0);case atStart=>rfl
 case round =>subst hrel;go_wp2;go_ret;exact⟨rfl,rfl⟩
theorem sM (a:Option Addr)(n cap:Nat)(c:Option Addr)(m b:Nat)(w:H)(h:(n:Int)≠m):Calls Tryz.prog 119 #[Y a n cap,Y c m b] w fun e f=>e=QU (QT QQ)/\f=w:=by
 have h2:((n:Int) == (m:Int))=QQ:=by simpa using h
 go_enter Tryz.func119,Tryz.ntmps119;go_wp2;go_ret;exact⟨rfl,rfl⟩
theorem sN (a:Option Addr)(n cap:Nat)(f:Nat->Ins)(i:Option Addr)(m c:Nat)(g:Nat->Ins)(w:H)(hn:n<=1048576)(hm:m<=1048576)(s:SlIns w a n f)(r:SlIns w i m g):Calls Tryz.prog 119 #[Y a n cap,Y i m c] w fun e j=>e=QU (QT (bu f g n m))/\∃ m,j=w.drewN m:=by
 by_cases h:n=m
 ·subst h
  have l:bu f g n n=cA f g n:=by simp[bu]
  rw[l];rcases s with rfl | ⟨b,off,rfl,s⟩
  ·exact(mG a cap i c w).mono fun e j ⟨p,q⟩=>⟨p,0,by rw[q];rfl⟩
  ·rcases r with rfl | ⟨t,o,rfl,r⟩
   ·exact(mG _ cap i c w).mono fun e j ⟨p,q⟩=>⟨p,0,by rw[q];rfl⟩
   ·exact sL b off n cap f t o c g w hn s r
 ·have l:bu f g n m=QQ:=by simp[bu,h]
  rw[l];exact(sM a n cap i m c w (by omega)).mono fun e j ⟨p,q⟩=>⟨p,0,by rw[q];rfl⟩
theorem xm (b off n cap:Nat)(f:Nat->Ins)(j c h:Nat)(g:Nat->Ins)(w:H)(hn:n<=1048576)(t:RowIns w b off n f)(A:RowIns w j c n g):Calls Tryz.prog 103 #[QV #[Y (N (T b off Z)) n cap],QV #[Y (N (T j c Z)) n h]] w fun e ZA=>e=QU (QT (cA f g n))/\Below w.heap.size w ZA:=by
 have r:=ae (((q9 w).alloc ly (Q #[Y (N (T b off Z)) n cap] 43)).alloc (by simp) (Q #[Y (N (T j c Z)) n h] 43));have u:((w.alloc (Q #[Y (N (T b off Z)) n cap] 43)).alloc (Q #[Y (N (T j c Z)) n h] 43)).cell? (T w.heap.size 0 Z)=N (Y (N (T b off Z)) n cap):=by simp[go_sem]
 have B:((w.alloc (Q #[Y (N (T b off Z)) n cap] 43)).alloc (Q #[Y (N (T j c Z)) n h] 43)).cell? (T (w.heap.size+1) 0 Z)=N (Y (N (T j c Z)) n h):=by simp[go_sem]
 have hz:w.heap.size+1<((w.alloc (Q #[Y (N (T b off Z)) n cap] 43)).alloc (Q #[Y (N (T j c Z)) n h] 43)).heap.size:=by simp
 have K:=ae t;have D:=ae A;clear t A;go_enter Tryz.func103,Tryz.ntmps103;go_wp2;generalize (w.alloc (Q #[Y (N (T b off Z)) n cap] 43)).alloc (Q #[Y (N (T j c Z)) n h] 43)=W at r u B hz ⊢;go_loopw [5] (fun i wr=>∃ k:Nat,k<=n/\i=I J k/\Hid (cA f g k=QR)/\Hid (Below W.heap.size W wr)) (fun i _=>n - (intOf i).toNat);case atStart=>exact⟨0,by omega,rfl,rfl,eL _ _⟩
 case round =>
  obtain⟨k,hk,rfl,y,m⟩:=hrel;have o:=ae (r.out.trans (m.out.mono r.out.size));have G:=(m.out.cell (p:=(T w.heap.size 0 Z)) (by show w.heap.size<_;omega)).trans u;have ZB:=(m.out.cell (p:=(T (w.heap.size+1) 0 Z)) hz).trans B;have x:w.heap.size+1<wr.heap.size:=lj hz m.out.size;by_cases l:k<n
  ·obtain⟨c0,c1,c2⟩:=(K.out.below o.out ly).2 k l
   obtain⟨E,Q9,F⟩:=(D.out.below o.out ly).2 k l;have hlt2:(k:Int)<n:=by omega
   have z:=sK (f k) (g k);go_wp2_with fail;go_quiet (fail);have C:=ae (F6 m.out nq);have s:=ae (F6 o.out nq);clear c0 c1 c2 E Q9 F z G ZB x;generalize wr.drewN nq=W' at C s ⊢;cases hb:iX (f k) (g k) with
   | true =>have q:=ae hb;clear hb;go_wp2;exact⟨⟨k+1,by omega,by go_num,by show cA f g (k+1)=QR;rw[cA,y.out,q.out];rfl,C.out⟩,by simp[intOf];omega⟩
   | false =>have q:=ae hb;clear hb;go_wp2;go_ret;exact⟨bm (ki l q.out).symm,s.out⟩
  ·obtain rfl:k=n:=by omega
   go_wp2;go_ret;exact⟨bm y.out.symm,o.out⟩
theorem pi (a:Option Addr)(cap:Nat)(c:Option Addr)(b:Nat)(w:H):Calls Tryz.prog 103 #[QV #[Y a 0 cap],QV #[Y c 0 b]] w fun e f=>e=QU (QT QR)/\Below w.heap.size w f:=by
 have g:=ae (((q9 w).alloc ly (Q #[Y a 0 cap] 43)).alloc (by simp) (Q #[Y c 0 b] 43));go_enter Tryz.func103,Tryz.ntmps103;go_wp2;go_loop [5] (fun i=>i=I J 0) (fun _=>0);case atStart=>rfl
 case round =>subst hrel;go_wp2;go_ret;exact⟨rfl,g.out⟩
theorem xo (a:Option Addr)(n cap:Nat)(c:Option Addr)(m b:Nat)(w:H)(h:(n:Int)≠m):Calls Tryz.prog 103 #[QV #[Y a n cap],QV #[Y c m b]] w fun e f=>e=QU (QT QQ)/\Below w.heap.size w f:=by
 have g:=ae (((q9 w).alloc ly (Q #[Y a n cap] 43)).alloc (by simp) (Q #[Y c m b] 43));have h2:((n:Int) == (m:Int))=QQ:=by simpa using h
 go_enter Tryz.func103,Tryz.ntmps103;go_wp2;go_ret;exact⟨rfl,g.out⟩
theorem xp (a:Option Addr)(n cap:Nat)(f:Nat->Ins)(i:Option Addr)(m c:Nat)(g:Nat->Ins)(w:H)(hn:n<=1048576)(hm:m<=1048576)(p:SlIns w a n f)(o:SlIns w i m g):Calls Tryz.prog 103 #[QV #[Y a n cap],QV #[Y i m c]] w fun e r=>e=QU (QT (bu f g n m))/\Below w.heap.size w r:=by
 by_cases h:n=m
 ·subst h
  have j:bu f g n n=cA f g n:=by simp[bu]
  rw[j];rcases p with rfl | ⟨b,off,rfl,p⟩
  ·exact pi a cap i c w
  ·rcases o with rfl | ⟨q,l,rfl,o⟩
   ·exact pi _ cap i c w
   ·exact xm b off n cap f q l c g w hn p o
 ·have j:bu f g n m=QQ:=by simp[bu,h]
  rw[j];exact xo a n cap i m c w (by omega)
end Go.Proofs.YtamacmnikdejeaaGreatDoor.Vp
