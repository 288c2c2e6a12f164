import Derived.Test.YtamacmnikdejeaaGreatDoorMD
import Derived.Laws.StructEq
set_option maxRecDepth 100000
set_option maxHeartbeats 2000000
open Go renaming Addr.mk->Q,Value.slice->Y,Value.string->U,Value.int->J,Value.bool->ZC,Value.agg->ZG,Obj.cells->N,IntKind.i64->I,World->E,Ending.returned->ZF,Proofs.Tryz.prog->Pg
open Option renaming none->Z,some->T
open Bool renaming false->ZA,true->ZD
namespace Go.Proofs.YtamacmnikdejeaaGreatDoor.Vp
open Tryz RowKit
theorem sZ (x y:Ins)(w:E):(binOp .neq 146 (ZG #[J I x.op,U x.s,J I x.n]) (ZG #[J I y.op,U y.s,J I y.n])).run Pg w=.ok (ZC (!jL x y)) w:=by
 have g:Pg.underlying 146=T (.struct (Pg.fieldsOf 146)):=by kernel_rfl
 have f:Pg.stoodInHeld 146=ZA:=by kernel_rfl
 rw[run_neq_struct,show(10000:Nat)=9999+1 from rfl,run_equalIn_agg w 9999 146 _ _ g f];simp only[Program.fieldsOf,underlying146];go_simp;unfold jL;by_cases h1:x.op=y.op<;>by_cases h2:x.s.toList=y.s.toList<;>by_cases b:x.n=y.n<;>simp[h1,h2,b]
theorem ti (b off n cap:Nat)(f:Nat->Ins)(u h o:Nat)(g:Nat->Ins)(w:E)(hn:n<=1048576)(z:RowIns w b off n f)(y:RowIns w u h n g):Calls Pg 119 #[Y (T (Q b off Z)) n cap,Y (T (Q u h Z)) n o] w λe H=>e=ZF (ZC (cH f g n))/\∃m,H=w.drewN m:=by
 have D:=ae z;have ZQ:=ae y;clear z y;go_enter func119,ntmps119;go_wp2;go_loopw [13] (λi wr=>∃k:Nat,k<=n/\i=J I k/\Hid (cH f g k=ZD)/\Hid (∃q,wr=w.drewN q)) (λi _=>n - (intOf i).toNat);case atStart=>exact⟨0,by omega,rfl,rfl,0,rfl⟩
 case round =>
  obtain⟨k,hk,rfl,t,s⟩:=hrel;have x:Hid (Below w.heap.size w wr):=by obtain⟨q,r⟩:=s.out;rw[r];exact AI br q
  by_cases j:k<n
  ·obtain⟨c0,c1,c2⟩:=(D.out.aa x.out ly).2 k j;obtain⟨C,G,B⟩:=(ZQ.out.aa x.out ly).2 k j;have hlt2:(k:Int)<n:=by omega
   have A:=sZ (f k) (g k);go_wp2_with fail;go_quiet (fail);have p:Hid (∃q,wr.drewN nq=w.drewN q):=by obtain⟨q,r⟩:=s.out;exact⟨q+nq,by rw[r,World.drewN_drewN]⟩
   clear c0 c1 c2 C G B A;generalize wr.drewN nq=W at p ⊢;cases hb:jL (f k) (g k) with
   |true =>have l:=ae hb;clear hb;go_wp2;exact⟨⟨k+1,by omega,by go_num,by show cH f g (k+1)=ZD;rw[cH,t.out,l.out];rfl,p.out⟩,by simp[intOf];omega⟩
   |false =>have l:=ae hb;clear hb;go_wp2;go_ret;exact⟨bj (jM j l.out).symm,p.out⟩
  ·obtain rfl:k=n:=by omega
   go_wp2;go_ret;exact⟨bj t.out.symm,s.out⟩
theorem mg (a:Option Addr)(cap:Nat)(f:Option Addr)(b:Nat)(w:E):Calls Pg 119 #[Y a 0 cap,Y f 0 b] w λe g=>e=ZF (ZC ZD)/\g=w:=by
 go_enter func119,ntmps119;go_wp2;go_loop [13] (λi=>i=J I 0) (λ_=>0);case atStart=>rfl
 case round =>subst hrel;go_wp2;go_ret;exact⟨rfl,rfl⟩
theorem tj (a:Option Addr)(n cap:Nat)(f:Option Addr)(m b:Nat)(w:E)(h:(n:Int)≠m):Calls Pg 119 #[Y a n cap,Y f m b] w λe g=>e=ZF (ZC ZA)/\g=w:=by
 have h2:((n:Int) == (m:Int))=ZA:=by simpa using h
 go_enter func119,ntmps119;go_wp2;go_ret;exact⟨rfl,rfl⟩
theorem tk (a:Option Addr)(n cap:Nat)(f:Nat->Ins)(j:Option Addr)(m i:Nat)(g:Nat->Ins)(w:E)(hn:n<=1048576)(hm:m<=1048576)(s:SlIns w a n f)(o:SlIns w j m g):Calls Pg 119 #[Y a n cap,Y j m i] w λe l=>e=ZF (ZC (cB f g n m))/\∃m,l=w.drewN m:=by
 by_cases h:n=m
 ·subst h;have t:cB f g n n=cH f g n:=by simp[cB]
  rw[t];rcases s with rfl|⟨b,off,rfl,s⟩
  {exact(mg a cap j i w).mono λe l ⟨p,q⟩=>⟨p,0,by rw[q];rfl⟩}
  ·rcases o with rfl|⟨u,r,rfl,o⟩
   {exact(mg _ cap j i w).mono λe l ⟨p,q⟩=>⟨p,0,by rw[q];rfl⟩};{exact ti b off n cap f u r i g w hn s o}
 ·have t:cB f g n m=ZA:=by simp[cB,h]
  rw[t];exact(tj a n cap j m i w (by omega)).mono λe l ⟨p,q⟩=>⟨p,0,by rw[q];rfl⟩
theorem xv (b off n cap:Nat)(f:Nat->Ins)(s h l:Nat)(g:Nat->Ins)(w:E)(hn:n<=1048576)(A:RowIns w b off n f)(z:RowIns w s h n g):Calls Pg 103 #[ZG #[Y (T (Q b off Z)) n cap],ZG #[Y (T (Q s h Z)) n l]] w λe O=>e=ZF (ZC (cH f g n))/\Below w.heap.size w O:=by
 obtain⟨W,m⟩:∃W:E,(w.alloc (N #[Y (T (Q b off Z)) n cap] 43)).alloc (N #[Y (T (Q s h Z)) n l] 43)=W:=⟨_,rfl⟩
 obtain⟨C,-,-,-⟩:=nb2 m;have j:=ae m;clear m;have K:W.cell? (Q w.heap.size 0 Z)=T (Y (T (Q b off Z)) n cap):=by rw[<-j.out];simp[go_sem]
 have L:W.cell? (Q (w.heap.size+1) 0 Z)=T (Y (T (Q s h Z)) n l):=by rw[<-j.out];simp[go_sem]
 have hz:w.heap.size+1<W.heap.size:=by rw[<-j.out];simp
 have ZP:=ae A;have M:=ae z;clear A z;go_enter func103,ntmps103;go_wp2;rw[j.out];clear j;go_loopw [5] (λi wr=>∃k:Nat,k<=n/\i=J I k/\Hid (cH f g k=ZD)/\Hid (Below W.heap.size W wr)) (λi _=>n - (intOf i).toNat);case atStart=>exact⟨0,by omega,rfl,rfl,cM _ _⟩
 case round =>
  obtain⟨k,hk,rfl,u,o⟩:=hrel;have r:=ae (C.out.trans (o.out.mono C.out.size));have ZO:=(o.out.cell (p:=(Q w.heap.size 0 Z)) (by show w.heap.size<_;omega)).trans K;have ZQ:=(o.out.cell (p:=(Q (w.heap.size+1) 0 Z)) hz).trans L;have y:w.heap.size+1<wr.heap.size:=lj hz o.out.size;by_cases q:k<n
  ·obtain⟨c0,c1,c2⟩:=(ZP.out.aa r.out ly).2 k q;obtain⟨H,ZN,G⟩:=(M.out.aa r.out ly).2 k q;have hlt2:(k:Int)<n:=by omega
   have D:=sZ (f k) (g k);go_wp2_with fail;go_quiet (fail);have x:=ae (AI o.out nq);have B:=ae (AI r.out nq);clear c0 c1 c2 H ZN G D ZO ZQ y;generalize wr.drewN nq=W' at x B ⊢;cases hb:jL (f k) (g k) with
   |true =>have t:=ae hb;clear hb;go_wp2;exact⟨⟨k+1,by omega,by go_num,by show cH f g (k+1)=ZD;rw[cH,u.out,t.out];rfl,x.out⟩,by simp[intOf];omega⟩
   |false =>have t:=ae hb;clear hb;go_wp2;go_ret;exact⟨bj (jM q t.out).symm,B.out⟩
  ·obtain rfl:k=n:=by omega
   go_wp2;go_ret;exact⟨bj u.out.symm,r.out⟩
theorem pi (a:Option Addr)(cap:Nat)(f:Option Addr)(b:Nat)(w:E):Calls Pg 103 #[ZG #[Y a 0 cap],ZG #[Y f 0 b]] w λe h=>e=ZF (ZC ZD)/\Below w.heap.size w h:=by
 have g:=ae (((BS w).alloc ly (N #[Y a 0 cap] 43)).alloc (by simp) (N #[Y f 0 b] 43));go_enter func103,ntmps103;go_wp2;go_loop [5] (λi=>i=J I 0) (λ_=>0);case atStart=>rfl
 case round =>subst hrel;go_wp2;go_ret;exact⟨rfl,g.out⟩
theorem xw (a:Option Addr)(n cap:Nat)(f:Option Addr)(m b:Nat)(w:E)(h:(n:Int)≠m):Calls Pg 103 #[ZG #[Y a n cap],ZG #[Y f m b]] w λe i=>e=ZF (ZC ZA)/\Below w.heap.size w i:=by
 have g:=ae (((BS w).alloc ly (N #[Y a n cap] 43)).alloc (by simp) (N #[Y f m b] 43));have h2:((n:Int) == (m:Int))=ZA:=by simpa using h
 go_enter func103,ntmps103;go_wp2;go_ret;exact⟨rfl,g.out⟩
theorem xx (a:Option Addr)(n cap:Nat)(f:Nat->Ins)(j:Option Addr)(m i:Nat)(g:Nat->Ins)(w:E)(hn:n<=1048576)(hm:m<=1048576)(p:SlIns w a n f)(l:SlIns w j m g):Calls Pg 103 #[ZG #[Y a n cap],ZG #[Y j m i]] w λe s=>e=ZF (ZC (cB f g n m))/\Below w.heap.size w s:=by
 by_cases h:n=m
 ·subst h;have q:cB f g n n=cH f g n:=by simp[cB]
  rw[q];rcases p with rfl|⟨b,off,rfl,p⟩
  {exact pi a cap j i w}
  ·rcases l with rfl|⟨r,o,rfl,l⟩
   {exact pi _ cap j i w};{exact xv b off n cap f r o i g w hn p l}
 ·have q:cB f g n m=ZA:=by simp[cB,h]
  rw[q];exact xw a n cap j m i w (by omega)
