import Derived.Test.YtamacmnikdejeaaGreatDoorSL
import Derived.Laws.BitsAllLaws
set_option maxHeartbeats 2000000
open Go.Addr renaming mk->N
open Go.Value renaming slice->Y,string->U,int->J
open Option renaming none->Z,some->T
open Go.IntKind renaming i64->I
open Go renaming World->G
open Bool renaming false->QB
open Go.Ending renaming returned->QF
namespace Go.Proofs.YtamacmnikdejeaaGreatDoor.Vp
open RowKit
theorem uh (a b:Nat)(f:a<4611686018427387904)(hb:b<4611686018427387904):∃ x:Nat,bits .xor I (a:Int) (b:Int)=x/\x<4611686018427387904:=by
 have hx:a ^^^ b<2 ^ 62:=Nat.xor_lt_two_pow (by omega) (by omega);refine⟨a ^^^ b,?_,by omega⟩;show IntKind.i64.wrap ((BitVec.ofInt 64 (a:Int) ^^^ BitVec.ofInt 64 (b:Int)).toNat:Int)=_;have e:∀ x:Nat,x<4611686018427387904->(BitVec.ofInt 64 (x:Int)).toNat=x:=fun x h=>by rw[BitVec.toNat_ofInt];omega
 rw[BitVec.toNat_xor,e a f,e b hb,kP];omega
def SlByte (w:G)(R:Nat)(a:Option Addr)(n:Nat):Prop:=n=0∨∃ b off,a=T (N b off Z)/\b<R/\b<w.heap.size/\∀ i,i<n->∃ u:Nat,u<256/\w.cell? (N b (off+i) Z)=T (J .u8 u)
theorem SlByte.only {w l:G}{R n:Nat}{a:Option Addr}(h:SlByte w R a n)(j:Only R w l):SlByte l R a n:=by
 rcases h with h | ⟨b,off,e,hb,g,m⟩
 ·exact .inl h
 ·refine .inr ⟨b,off,e,hb,lj g j.size,fun i hi=>?_⟩
  obtain⟨u,o,f⟩:=m i hi;exact⟨u,o,(j.cell b _ g (by omega)).trans f⟩
def Rd (w:G)(R p:Nat):Prop:=∃ a n cap,R<w.heap.size/\n<=2000/\w.cell? (N R 0 Z)=T (Y a n cap)/\(w.cell? (N R 1 Z)=T (J I p)/\w.frozen? (N R 1 Z)=QB)/\SlByte w R a n
theorem Rd.lt {w:G}{R p:Nat}(h:Rd w R p):R<w.heap.size:=by obtain⟨_,_,_,h,_⟩:=h;exact h
theorem Rd.below {w g:G}{B R p:Nat}(h:Rd w R p)(hb:Below B w g)(f:w.heap.size<=B):Rd g R p:=by obtain⟨a,n,cap,b,hn,i,⟨h1,h2⟩,j⟩:=h;refine⟨a,n,cap,lj b hb.size,hn,(hb.cell (p:=(N R 0 Z)) (lj b f)).trans i,⟨(hb.cell (p:=(N R 1 Z)) (lj b f)).trans h1,(hb.frozen (p:=(N R 1 Z)) (lj b f)).trans h2⟩,?_⟩;exact j.only (Only.of_below (hb.mono f))
theorem Rd.low {w m:G}{B R p:Nat}(h:Rd w R p)(hb:Below B w m)(g:R<B):Rd m R p:=by
 obtain⟨a,n,cap,o,hn,q,⟨h1,h2⟩,s⟩:=h;refine⟨a,n,cap,lj o hb.size,hn,(hb.cell (p:=(N R 0 Z)) g).trans q,⟨(hb.cell (p:=(N R 1 Z)) g).trans h1,(hb.frozen (p:=(N R 1 Z)) g).trans h2⟩,?_⟩;rcases s with h | ⟨b,off,e,j,l,r⟩
 ·exact .inl h
 ·refine .inr ⟨b,off,e,j,lj l hb.size,fun i hi=>?_⟩
  obtain⟨u,t,f⟩:=r i hi;exact⟨u,t,(hb.cell (p:=(N b _ Z)) (Nat.lt_trans j g)).trans f⟩
theorem Only.then {R:Nat}{u v w:G}(h:Only R u v)(k:Below u.heap.size v w):Only R u w :=
 ⟨k.os.trans h.os,k.tape.trans h.tape,k.output.trans h.output,p9 h.size k.size,fun i hi f=>(k.block i hi).trans (h.block i hi f),fun b t fz hb=>let ⟨cs1,h1⟩:=h.ty b t fz hb;⟨cs1,(k.block R (ai hb)).trans h1⟩⟩
theorem Rd.step {w:G}{R p:Nat}(h:Rd w R p):Rd (w.setCell (N R 1 Z) (J I ((p:Int)+1))) R (p+1):=by obtain⟨a,n,cap,f,hn,b,⟨h1,h2⟩,g⟩:=h;refine⟨a,n,cap,by simpa using f,hn,(sq _ _ _ _ (by simp)).trans b,⟨?_,by simpa using h2⟩,g.only (ci (Only.refl R w) 1 _)⟩;rw[AI _ _ _ (by rw[h1];rfl)];rfl
theorem zB (R p:Nat)(m:Int)(a:Option Addr)(cap:Nat)(w:G)(h0:w.cell? (N R 0 Z)=T (Y a 0 cap))(h1:w.cell? (N R 1 Z)=T (J I p))(h2:w.frozen? (N R 1 Z)=QB)(hp:(p:Int)<=100000)(hm:1<=m):Calls Tryz.prog 33 #[.pointer (T (N R 0 Z)),J I m] w fun e b=>e=QF (J I 0)/\b=w.setCell (N R 1 Z) (J I ((p:Int)+1)):=by go_enter Tryz.func33,Tryz.ntmps33;go_wp2;go_ret;exact⟨rfl,rfl⟩
theorem Ck (R p:Nat)(m:Int)(b off n cap u:Nat)(w:G)(h0:w.cell? (N R 0 Z)=T (Y (T (N b off Z)) n cap))(h1:w.cell? (N R 1 Z)=T (J I p))(h2:w.frozen? (N R 1 Z)=QB)(hp:(p:Int)<=100000)(hm:1<=m)(hm2:m<=100000)
  (hlt:p<n) (hb:b<R) (hu:u<256) (g:w.cell? (N b (off+p) Z)=T (J .u8 u)) :
  Calls Tryz.prog 33 #[.pointer (T (N R 0 Z)),J I m] w fun e i=>∃ z:Int,e=QF (J I z)/\0<=z/\z<m/\i=w.setCell (N R 1 Z) (J I ((p:Int)+1)):=by
 have hc':(w.setCell (N R 1 Z) (J I ((p:Int)+1))).cell? (N b (off+p) Z)=T (J .u8 u):=(cell_far _ _ _ _ (by simp;omega)).trans g;obtain⟨z,hz,h,f⟩:∃ z:Int,(u:Int).tmod m=z/\0<=z/\z<m:=⟨_,rfl,Int.tmod_nonneg _ (by omega),Int.tmod_lt_of_pos _ (by omega)⟩
 have hm0:¬ m=0:=by omega
 have hq:(decide (m<1) || ((n:Int) == 0))=QB:=by simp;omega
 clear g;go_enter Tryz.func33,Tryz.ntmps33;go_wp2;go_ret;exact⟨z,rfl,h,f,rfl⟩
theorem zC (R p:Nat)(m:Int)(b off n cap u v:Nat)(w:G)(E:w.cell? (N R 0 Z)=T (Y (T (N b off Z)) n cap))(h1:w.cell? (N R 1 Z)=T (J I p))(h2:w.frozen? (N R 1 Z)=QB)(hp:(p:Int)<=100000)(hm:1<=m)(hm2:m<=100000)
  (hlt:¬ p<n) (hn1:1<=n) (hn:n<=2000) (hb:b<R) (hu:u<256) (hv:v<256) (o:w.cell? ⟨b,off+p % n,Z⟩=T (J .u8 u)) (l:w.cell? ⟨b,off+(p*7+3) % n,Z⟩=T (J .u8 v)) :
  Calls Tryz.prog 33 #[.pointer (T (N R 0 Z)),J I m] w fun e QP=>∃ z:Int,e=QF (J I z)/\0<=z/\z<m/\Below (w.setCell (N R 1 Z) (J I ((p:Int)+1))).heap.size (w.setCell (N R 1 Z) (J I ((p:Int)+1))) QP:=by
 obtain⟨i,hi⟩:∃ i,i=p % n:=⟨_,rfl⟩
 obtain⟨j,g⟩:∃ j,j=(p*7+3) % n:=⟨_,rfl⟩
 obtain⟨d,f⟩:∃ d,d=p / n:=⟨_,rfl⟩
 have hi2:i<n:=by rw[hi];exact LH _ (by omega)
 have hj2:j<n:=by rw[g];exact LH _ (by omega)
 have hd2:d<=p:=by rw[f];exact Nat.div_le_self _ _
 have e1:(p:Int).tmod n=i:=by rw[hi];rfl
 have e2:((p:Int)*7+3).tmod n=j:=by rw[g];rfl
 have e3:(p:Int) / n=d:=by rw[f];rfl
 rw[<-hi] at o;rw[<-g] at l;have r:(w.setCell (N R 1 Z) (J I ((p:Int)+1))).cell? (N b (off+i) Z)=T (J .u8 u):=(cell_far _ _ _ _ (by simp;omega)).trans o;have q:(w.setCell (N R 1 Z) (J I ((p:Int)+1))).cell? (N b (off+j) Z)=T (J .u8 v):=(cell_far _ _ _ _ (by simp;omega)).trans l;have C:(w.setCell (N R 1 Z) (J I ((p:Int)+1))).cell? (N R 0 Z)=T (Y (T (N b off Z)) n cap):=(sq _ _ _ _ (by simp)).trans E;obtain⟨x,A,hx2⟩:∃ x:Nat,(u:Int)*131+v*1117+p*29+d*53=x/\x<1000000000000:=⟨u*131+v*1117+p*29+d*53,by omega,by omega⟩
 obtain⟨y,h,hy2⟩:=uh x (x / 64) (by omega) (by omega);rw[show((x / 64:Nat):Int)=(x:Int) / 64 from rfl] at h;obtain⟨z,hz,s,B⟩:∃ z:Int,(y:Int).tmod m=z/\0<=z/\z<m:=⟨_,rfl,Int.tmod_nonneg _ (by omega),Int.tmod_lt_of_pos _ (by omega)⟩
 have hm0:¬ m=0:=by omega
 have hq:(decide (m<1) || ((n:Int) == 0))=QB:=by simp;omega
 have hn0:¬ (n:Int)=0:=by omega
 have hge:(n:Int)<=p:=by omega
 have D:=ae A;have H:=ae h;have QR:=ae hz;clear hi g o l A h hz f;go_enter Tryz.func33,Tryz.ntmps33;go_wp2_with fail;go_quiet (fail);have t:=ae (AT (a8 (w.setCell (N R 1 Z) (J I ((p:Int)+1))).heap.size (w.setCell (N R 1 Z) (J I ((p:Int)+1)))) nq);rw[D.out];clear r q C;generalize (w.setCell (N R 1 Z) (J I ((p:Int)+1))).drewN nq=W at t ⊢;have h:=H.out;have hz:=QR.out;go_wp2;go_ret;exact⟨z,rfl,s,B,t⟩
theorem av (R p:Nat)(m:Int)(w:G)(hR:Rd w R p)(y:(p:Int)<=100000)(x:1<=m)(t:m<=100000):Calls Tryz.prog 33 #[.pointer (T (N R 0 Z)),J I m] w fun e s=>∃ z:Int,e=QF (J I z)/\0<=z/\z<m/\Rd s R (p+1)/\Only R w s:=by
 have hR':=hR;have hst:=hR.step;have l:Only R w (w.setCell (N R 1 Z) (J I ((p:Int)+1))):=ci (Only.refl R w) 1 _;obtain⟨a,n,cap,hl,hn,A,⟨h1,h2⟩,QR⟩:=hR;by_cases hz:n=0
 ·subst hz
  exact(zB R p m a cap w A h1 h2 y x).mono fun e s ⟨r,o⟩=>⟨0,r,by omega,by omega,by rw[o];exact hst,by rw[o];exact l⟩
 ·rcases QR with h | ⟨b,off,rfl,hb,hbl,B⟩
  ·exact absurd h hz
  ·by_cases j:p<n
   ·obtain⟨u,C,f⟩:=B p j
    exact(Ck R p m b off n cap u w A h1 h2 y x t j hb C f).mono fun e s ⟨z,r,i,q,o⟩=>⟨z,r,i,q,by rw[o];exact hst,by rw[o];exact l⟩
   ·obtain⟨u,C,f⟩:=B (p % n) (LH _ (by omega))
    obtain⟨v,E,g⟩:=B ((p*7+3) % n) (LH _ (by omega));exact(zC R p m b off n cap u v w A h1 h2 y x t j (by omega) hn hb C E f g).mono fun e s ⟨z,r,i,q,D⟩=>⟨z,r,i,q,hst.below D ly,l.trans (Only.of_below D)⟩
def ByteSl (w:G)(a:Option Addr)(n:Nat):Prop:=n=0∨∃ b off,a=T (N b off Z)/\b<w.heap.size/\∀ i,i<n->∃ u:Nat,u<256/\w.cell? (N b (off+i) Z)=T (J .u8 u)
theorem ByteSl.below {w j:G}{B n:Nat}{a:Option Addr}(h:ByteSl w a n)(hb:Below B w j)(m:w.heap.size<=B):ByteSl j a n:=by
 rcases h with h | ⟨b,off,e,g,l⟩
 ·exact .inl h
 ·refine .inr ⟨b,off,e,lj g hb.size,fun i hi=>?_⟩
  obtain⟨u,o,f⟩:=l i hi;exact⟨u,o,(hb.cell (p:=(N b _ Z)) (lj g m)).trans f⟩
theorem sd {w:G}{a:Option Addr}{n k cap:Nat}(h:ByteSl w a n)(hk:k<=n)(j:k<=2000)(t:TypeId):Rd (w.alloc (.cells #[Y a k cap,J I 0] t)) w.heap.size 0:=by
 refine⟨a,k,cap,by simp,j,by simp,⟨by simp,by simp⟩,?_⟩;rcases h with h | ⟨b,off,e,g,l⟩
 ·exact .inl (by omega)
 ·refine .inr ⟨b,off,e,g,by simp;omega,fun i hi=>?_⟩
  obtain⟨u,m,f⟩:=l i (by omega);exact⟨u,m,(((q9 w).alloc ly _).cell (p:=(N b _ Z)) g).trans f⟩
theorem wj (b off n cap:Nat)(w:G)(hn:(n:Int)<=1048576)(hc:n<=cap)(g:ByteSl w (T (N b off Z)) n):Calls Tryz.prog 31 #[Y (T (N b off Z)) n cap] w fun e i=>∃ R,e=QF (.pointer (T (N R 0 Z)))/\w.heap.size<=R/\Rd i R 0/\Below w.heap.size w i:=by
 have f:=ae g;clear g;by_cases h:(2000:Int)<n;all_goals
  go_enter Tryz.func31,Tryz.ntmps31;go_wp2;go_ret;first
   | exact⟨_,rfl,j6 _,sd f (k:=2000) (by omega) (by omega) _,br.alloc ly _⟩
   | exact⟨_,rfl,j6 _,sd f (k:=n) (by omega) (by omega) _,br.alloc ly _⟩
theorem wk (a:Option Addr)(cap:Nat)(w:G):Calls Tryz.prog 31 #[Y a 0 cap] w fun e b=>∃ R,e=QF (.pointer (T (N R 0 Z)))/\w.heap.size<=R/\Rd b R 0/\Below w.heap.size w b:=by have f:Hid (ByteSl w a 0):=.inl rfl;go_enter Tryz.func31,Tryz.ntmps31;go_wp2;go_ret;exact⟨_,rfl,j6 _,sd f (k:=0) (by omega) (by omega) _,br.alloc ly _⟩
theorem ws (a:Option Addr)(n cap:Nat)(w:G)(hn:(n:Int)<=1048576)(i:n<=cap)(g:ByteSl w a n):Calls Tryz.prog 31 #[Y a n cap] w fun e h=>∃ R,e=QF (.pointer (T (N R 0 Z)))/\w.heap.size<=R/\Rd h R 0/\Below w.heap.size w h:=by
 have f:=g;rcases g with rfl | ⟨b,off,rfl,_,_⟩
 ·exact wk a cap w
 ·exact wj b off n cap w hn i f
theorem eO (s:ByteArray)(n:Nat)(w:G)(h:s.size*n<=4000)(hn:(n:Int)<=4000):Calls Tryz.prog 63 #[U s,J I n] w fun e y=>∃ t:ByteArray,e=QF (U t)/\t.size<=s.size*n/\y=w:=by
 have H:=ae h;clear h;go_enter Tryz.func63,Tryz.ntmps63;go_wp2;go_loop [0,1,5] (fun sv l u=>∃ (x:ByteArray) (k:Nat) (o:ByteArray),sv=U x/\l=J I k/\u=U o/\(k:Int)<=4000/\Hid (o.size+x.size*k<=s.size*n)) (fun _ l _=>(intOf l).toNat);case atStart=>exact⟨s,n,⟨#[]⟩,rfl,rfl,rfl,hn,by show 0+s.size*n<=_;omega⟩
 case round =>
  obtain⟨x,k,o,rfl,rfl,rfl,hk,f⟩:=hrel;by_cases hz:(k:Int)=0
  ·obtain rfl:k=0:=by omega
   have r:o.size<=s.size*n:=by have:=f.out;omega
   have g:=ae r;clear r;go_wp2;go_ret;exact⟨o,rfl,g,rfl⟩
  ·have hpos:0<(k:Int):=by omega
   have m:x.size<=x.size*k:=Nat.le_mul_of_pos_right _ (by omega);have hx2:(x.size:Int)<=4000:=by have:=f.out;have:=H.out;omega
   have ho2:(o.size:Int)<=4000:=by have:=f.out;have:=H.out;omega
   have q5:(k:Int).tmod 2=(k:Int) % 2:=J6 (by omega);have i:(x++x).size=x.size+x.size:=by simp
   have q:(o++x).size=o.size+x.size:=by simp
   have b:(x.size+x.size)*(k / 2)+x.size*(k % 2)=x.size*k:=by rw[show x.size*k=x.size*(2*(k / 2)+k % 2) by rw[Nat.div_add_mod]];rw[Nat.mul_add,<-Nat.mul_assoc,Nat.mul_two]
   have p:=ae b;clear b m;by_cases hodd:(k:Int) % 2=1
   ·have g:Hid (k % 2=1):=by show k % 2=1;omega
    go_wp2;refine⟨⟨x++x,k / 2,o++x,rfl,by go_num,rfl,by omega,?_⟩,by simp[intOf];omega⟩;show(o++x).size+(x++x).size*(k / 2)<=s.size*n;have:=f.out;have j:=p.out;rw[g.out,Nat.mul_one] at j;rw[i,q];omega
   ·have g:Hid (k % 2=0):=by show k % 2=0;omega
    go_wp2;refine⟨⟨x++x,k / 2,o,rfl,by go_num,rfl,by omega,?_⟩,by simp[intOf];omega⟩;show o.size+(x++x).size*(k / 2)<=s.size*n;have:=f.out;have j:=p.out;rw[g.out,Nat.mul_zero] at j;rw[i];omega
end Go.Proofs.YtamacmnikdejeaaGreatDoor.Vp
