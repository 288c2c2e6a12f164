import Derived.Test.YtamacmnikdejeaaGreatDoorZM
import Derived.Laws.BitsAllLaws
set_option maxHeartbeats 2000000
open Go.Addr renaming mk->T
open Go.Value renaming slice->Y,string->U,int->I
open Option renaming none->Z,some->N
open Go.IntKind renaming i64->J
open Go renaming World->H
open Bool renaming false->QQ
open Go.Ending renaming returned->QU
namespace Go.Proofs.YtamacmnikdejeaaGreatDoor.Vp
open RowKit
theorem uR (a b:Nat)(c:a<4611686018427387904)(hb:b<4611686018427387904):∃ x:Nat,bits .xor J (a:Int) (b:Int)=x/\x<4611686018427387904:=by
 have hx:a ^^^ b<2 ^ 62:=Nat.xor_lt_two_pow (by omega) (by omega);refine⟨a ^^^ b,?_,by omega⟩;show IntKind.i64.wrap ((BitVec.ofInt 64 (a:Int) ^^^ BitVec.ofInt 64 (b:Int)).toNat:Int)=_;have e:∀ x:Nat,x<4611686018427387904->(BitVec.ofInt 64 (x:Int)).toNat=x:=fun x h=>by rw[BitVec.toNat_ofInt];omega
 rw[BitVec.toNat_xor,e a c,e b hb,j6];omega
def SlByte (w:H)(R:Nat)(a:Option Addr)(n:Nat):Prop:=n=0∨∃ b off,a=N (T b off Z)/\b<R/\b<w.heap.size/\∀ i,i<n->∃ u:Nat,u<256/\w.cell? (T b (off+i) Z)=N (I .u8 u)
theorem SlByte.only {w j:H}{R n:Nat}{a:Option Addr}(h:SlByte w R a n)(g:Only R w j):SlByte j R a n:=by
 rcases h with h | ⟨b,off,e,hb,f,l⟩
 ·exact .inl h
 ·refine .inr ⟨b,off,e,hb,lj f g.size,fun i hi=>?_⟩
  obtain⟨u,m,c⟩:=l i hi;exact⟨u,m,(g.cell b _ f (by omega)).trans c⟩
def Rd (w:H)(R p:Nat):Prop:=∃ a n cap,R<w.heap.size/\n<=2000/\w.cell? (T R 0 Z)=N (Y a n cap)/\(w.cell? (T R 1 Z)=N (I J p)/\w.frozen? (T R 1 Z)=QQ)/\SlByte w R a n
theorem Rd.lt {w:H}{R p:Nat}(h:Rd w R p):R<w.heap.size:=by obtain⟨_,_,_,h,_⟩:=h;exact h
theorem Rd.below {w f:H}{B R p:Nat}(h:Rd w R p)(hb:Below B w f)(c:w.heap.size<=B):Rd f R p:=by obtain⟨a,n,cap,b,hn,g,⟨h1,h2⟩,i⟩:=h;refine⟨a,n,cap,lj b hb.size,hn,(hb.cell (p:=(T R 0 Z)) (lj b c)).trans g,⟨(hb.cell (p:=(T R 1 Z)) (lj b c)).trans h1,(hb.frozen (p:=(T R 1 Z)) (lj b c)).trans h2⟩,?_⟩;exact i.only (Only.of_below (hb.mono c))
theorem Rd.low {w l:H}{B R p:Nat}(h:Rd w R p)(hb:Below B w l)(f:R<B):Rd l R p:=by
 obtain⟨a,n,cap,o,hn,r,⟨h1,h2⟩,s⟩:=h;refine⟨a,n,cap,lj o hb.size,hn,(hb.cell (p:=(T R 0 Z)) f).trans r,⟨(hb.cell (p:=(T R 1 Z)) f).trans h1,(hb.frozen (p:=(T R 1 Z)) f).trans h2⟩,?_⟩;rcases s with h | ⟨b,off,e,g,j,m⟩
 ·exact .inl h
 ·refine .inr ⟨b,off,e,g,lj j hb.size,fun i hi=>?_⟩
  obtain⟨u,q,c⟩:=m i hi;exact⟨u,q,(hb.cell (p:=(T b _ Z)) (Nat.lt_trans g f)).trans c⟩
theorem Only.then {R:Nat}{u v w:H}(h:Only R u v)(k:Below u.heap.size v w):Only R u w :=
 ⟨k.os.trans h.os,k.tape.trans h.tape,k.output.trans h.output,j4 h.size k.size,fun i hi c=>(k.block i hi).trans (h.block i hi c),fun b t fz hb=>let ⟨cs1,h1⟩:=h.ty b t fz hb;⟨cs1,(k.block R (ai hb)).trans h1⟩⟩
theorem Rd.step {w:H}{R p:Nat}(h:Rd w R p):Rd (w.setCell (T R 1 Z) (I J ((p:Int)+1))) R (p+1):=by obtain⟨a,n,cap,f,hn,b,⟨h1,h2⟩,c⟩:=h;refine⟨a,n,cap,by simpa using f,hn,(sq _ _ _ _ (by simp)).trans b,⟨?_,by simpa using h2⟩,c.only (gu (Only.refl R w) 1 _)⟩;rw[p7 _ _ _ (by rw[h1];rfl)];rfl
theorem AX (R p:Nat)(m:Int)(a:Option Addr)(cap:Nat)(w:H)(h0:w.cell? (T R 0 Z)=N (Y a 0 cap))(h1:w.cell? (T R 1 Z)=N (I J p))(h2:w.frozen? (T R 1 Z)=QQ)(hp:(p:Int)<=100000)(hm:1<=m):Calls Tryz.prog 33 #[.pointer (N (T R 0 Z)),I J m] w fun e b=>e=QU (I J 0)/\b=w.setCell (T R 1 Z) (I J ((p:Int)+1)):=by go_enter Tryz.func33,Tryz.ntmps33;go_wp2;go_ret;exact⟨rfl,rfl⟩
theorem Ei (R p:Nat)(m:Int)(b off n cap u:Nat)(w:H)(h0:w.cell? (T R 0 Z)=N (Y (N (T b off Z)) n cap))(h1:w.cell? (T R 1 Z)=N (I J p))(h2:w.frozen? (T R 1 Z)=QQ)(hp:(p:Int)<=100000)(hm:1<=m)(hm2:m<=100000)
  (hlt:p<n) (hb:b<R) (hu:u<256) (c:w.cell? (T b (off+p) Z)=N (I .u8 u)) :
  Calls Tryz.prog 33 #[.pointer (N (T R 0 Z)),I J m] w fun e h=>∃ z:Int,e=QU (I J z)/\0<=z/\z<m/\h=w.setCell (T R 1 Z) (I J ((p:Int)+1)):=by
 have hc':(w.setCell (T R 1 Z) (I J ((p:Int)+1))).cell? (T b (off+p) Z)=N (I .u8 u):=(cell_far _ _ _ _ (by simp;omega)).trans c;obtain⟨z,hz,g,f⟩:∃ z:Int,(u:Int).tmod m=z/\0<=z/\z<m:=⟨_,rfl,Int.tmod_nonneg _ (by omega),Int.tmod_lt_of_pos _ (by omega)⟩
 have hm0:¬ m=0:=by omega
 have hq:(decide (m<1) || ((n:Int) == 0))=QQ:=by simp;omega
 clear c;go_enter Tryz.func33,Tryz.ntmps33;go_wp2;go_ret;exact⟨z,rfl,g,f,rfl⟩
theorem AY (R p:Nat)(m:Int)(b off n cap u v:Nat)(w:H)(G:w.cell? (T R 0 Z)=N (Y (N (T b off Z)) n cap))(h1:w.cell? (T R 1 Z)=N (I J p))(h2:w.frozen? (T R 1 Z)=QQ)(hp:(p:Int)<=100000)(hm:1<=m)(hm2:m<=100000)
  (hlt:¬ p<n) (hn1:1<=n) (hn:n<=2000) (hb:b<R) (hu:u<256) (hv:v<256) (l:w.cell? ⟨b,off+p % n,Z⟩=N (I .u8 u)) (h:w.cell? ⟨b,off+(p*7+3) % n,Z⟩=N (I .u8 v)) :
  Calls Tryz.prog 33 #[.pointer (N (T R 0 Z)),I J m] w fun e B=>∃ z:Int,e=QU (I J z)/\0<=z/\z<m/\Below (w.setCell (T R 1 Z) (I J ((p:Int)+1))).heap.size (w.setCell (T R 1 Z) (I J ((p:Int)+1))) B:=by
 obtain⟨i,hi⟩:∃ i,i=p % n:=⟨_,rfl⟩
 obtain⟨j,g⟩:∃ j,j=(p*7+3) % n:=⟨_,rfl⟩
 obtain⟨d,c⟩:∃ d,d=p / n:=⟨_,rfl⟩
 have hi2:i<n:=by rw[hi];exact NO _ (by omega)
 have hj2:j<n:=by rw[g];exact NO _ (by omega)
 have hd2:d<=p:=by rw[c];exact Nat.div_le_self _ _
 have e1:(p:Int).tmod n=i:=by rw[hi];rfl
 have e2:((p:Int)*7+3).tmod n=j:=by rw[g];rfl
 have e3:(p:Int) / n=d:=by rw[c];rfl
 rw[<-hi] at l;rw[<-g] at h;have q:(w.setCell (T R 1 Z) (I J ((p:Int)+1))).cell? (T b (off+i) Z)=N (I .u8 u):=(cell_far _ _ _ _ (by simp;omega)).trans l;have s:(w.setCell (T R 1 Z) (I J ((p:Int)+1))).cell? (T b (off+j) Z)=N (I .u8 v):=(cell_far _ _ _ _ (by simp;omega)).trans h;have C:(w.setCell (T R 1 Z) (I J ((p:Int)+1))).cell? (T R 0 Z)=N (Y (N (T b off Z)) n cap):=(sq _ _ _ _ (by simp)).trans G;obtain⟨x,o,hx2⟩:∃ x:Nat,(u:Int)*131+v*1117+p*29+d*53=x/\x<1000000000000:=⟨u*131+v*1117+p*29+d*53,by omega,by omega⟩
 obtain⟨y,f,hy2⟩:=uR x (x / 64) (by omega) (by omega);rw[show((x / 64:Nat):Int)=(x:Int) / 64 from rfl] at f;obtain⟨z,hz,A,t⟩:∃ z:Int,(y:Int).tmod m=z/\0<=z/\z<m:=⟨_,rfl,Int.tmod_nonneg _ (by omega),Int.tmod_lt_of_pos _ (by omega)⟩
 have hm0:¬ m=0:=by omega
 have hq:(decide (m<1) || ((n:Int) == 0))=QQ:=by simp;omega
 have hn0:¬ (n:Int)=0:=by omega
 have hge:(n:Int)<=p:=by omega
 have E:=ae o;have D:=ae f;have F:=ae hz;clear hi g l h o f hz c;go_enter Tryz.func33,Tryz.ntmps33;go_wp2_with fail;go_quiet (fail);have r:=ae (F6 (eL (w.setCell (T R 1 Z) (I J ((p:Int)+1))).heap.size (w.setCell (T R 1 Z) (I J ((p:Int)+1)))) nq);rw[E.out];clear q s C;generalize (w.setCell (T R 1 Z) (I J ((p:Int)+1))).drewN nq=W at r ⊢;have f:=D.out;have hz:=F.out;go_wp2;go_ret;exact⟨z,rfl,A,t,r⟩
theorem aw (R p:Nat)(m:Int)(w:H)(hR:Rd w R p)(A:(p:Int)<=100000)(B:1<=m)(t:m<=100000):Calls Tryz.prog 33 #[.pointer (N (T R 0 Z)),I J m] w fun e j=>∃ z:Int,e=QU (I J z)/\0<=z/\z<m/\Rd j R (p+1)/\Only R w j:=by
 have hR':=hR;have l:=hR.step;have r:Only R w (w.setCell (T R 1 Z) (I J ((p:Int)+1))):=gu (Only.refl R w) 1 _;obtain⟨a,n,cap,hl,hn,C,⟨h1,h2⟩,E⟩:=hR;by_cases hz:n=0
 ·subst hz
  exact(AX R p m a cap w C h1 h2 A B).mono fun e j ⟨f,q⟩=>⟨0,f,by omega,by omega,by rw[q];exact l,by rw[q];exact r⟩
 ·rcases E with h | ⟨b,off,rfl,hb,hbl,y⟩
  ·exact absurd h hz
  ·by_cases i:p<n
   ·obtain⟨u,x,c⟩:=y p i
    exact(Ei R p m b off n cap u w C h1 h2 A B t i hb x c).mono fun e j ⟨z,f,s,o,q⟩=>⟨z,f,s,o,by rw[q];exact l,by rw[q];exact r⟩
   ·obtain⟨u,x,c⟩:=y (p % n) (NO _ (by omega))
    obtain⟨v,F,g⟩:=y ((p*7+3) % n) (NO _ (by omega));exact(AY R p m b off n cap u v w C h1 h2 A B t i (by omega) hn hb x F c g).mono fun e j ⟨z,f,s,o,D⟩=>⟨z,f,s,o,l.below D ly,r.trans (Only.of_below D)⟩
def ByteSl (w:H)(a:Option Addr)(n:Nat):Prop:=n=0∨∃ b off,a=N (T b off Z)/\b<w.heap.size/\∀ i,i<n->∃ u:Nat,u<256/\w.cell? (T b (off+i) Z)=N (I .u8 u)
theorem ByteSl.below {w g:H}{B n:Nat}{a:Option Addr}(h:ByteSl w a n)(hb:Below B w g)(m:w.heap.size<=B):ByteSl g a n:=by
 rcases h with h | ⟨b,off,e,f,j⟩
 ·exact .inl h
 ·refine .inr ⟨b,off,e,lj f hb.size,fun i hi=>?_⟩
  obtain⟨u,l,c⟩:=j i hi;exact⟨u,l,(hb.cell (p:=(T b _ Z)) (lj f m)).trans c⟩
theorem sP {w:H}{a:Option Addr}{n k cap:Nat}(h:ByteSl w a n)(hk:k<=n)(f:k<=2000)(t:TypeId):Rd (w.alloc (.cells #[Y a k cap,I J 0] t)) w.heap.size 0:=by
 refine⟨a,k,cap,by simp,f,by simp,⟨by simp,by simp⟩,?_⟩;rcases h with h | ⟨b,off,e,g,j⟩
 ·exact .inl (by omega)
 ·refine .inr ⟨b,off,e,g,by simp;omega,fun i hi=>?_⟩
  obtain⟨u,l,c⟩:=j i (by omega);exact⟨u,l,(((q9 w).alloc ly _).cell (p:=(T b _ Z)) g).trans c⟩
theorem xq (b off n cap:Nat)(w:H)(hn:(n:Int)<=1048576)(hc:n<=cap)(g:ByteSl w (N (T b off Z)) n):Calls Tryz.prog 31 #[Y (N (T b off Z)) n cap] w fun e f=>∃ R,e=QU (.pointer (N (T R 0 Z)))/\w.heap.size<=R/\Rd f R 0/\Below w.heap.size w f:=by
 have c:=ae g;clear g;by_cases h:(2000:Int)<n;all_goals
  go_enter Tryz.func31,Tryz.ntmps31;go_wp2;go_ret;first
   | exact⟨_,rfl,j5 _,sP c (k:=2000) (by omega) (by omega) _,br.alloc ly _⟩
   | exact⟨_,rfl,j5 _,sP c (k:=n) (by omega) (by omega) _,br.alloc ly _⟩
theorem xr (a:Option Addr)(cap:Nat)(w:H):Calls Tryz.prog 31 #[Y a 0 cap] w fun e b=>∃ R,e=QU (.pointer (N (T R 0 Z)))/\w.heap.size<=R/\Rd b R 0/\Below w.heap.size w b:=by have c:Hid (ByteSl w a 0):=.inl rfl;go_enter Tryz.func31,Tryz.ntmps31;go_wp2;go_ret;exact⟨_,rfl,j5 _,sP c (k:=0) (by omega) (by omega) _,br.alloc ly _⟩
theorem jd (a:Option Addr)(n cap:Nat)(w:H)(hn:(n:Int)<=1048576)(h:n<=cap)(g:ByteSl w a n):Calls Tryz.prog 31 #[Y a n cap] w fun e c=>∃ R,e=QU (.pointer (N (T R 0 Z)))/\w.heap.size<=R/\Rd c R 0/\Below w.heap.size w c:=by
 have f:=g;rcases g with rfl | ⟨b,off,rfl,_,_⟩
 ·exact xr a cap w
 ·exact xq b off n cap w hn h f
theorem eG (s:ByteArray)(n:Nat)(w:H)(h:s.size*n<=4000)(hn:(n:Int)<=4000):Calls Tryz.prog 63 #[U s,I J n] w fun e r=>∃ t:ByteArray,e=QU (U t)/\t.size<=s.size*n/\r=w:=by
 have ZB:=ae h;clear h;go_enter Tryz.func63,Tryz.ntmps63;go_wp2;go_loop [0,1,5] (fun sv j u=>∃ (x:ByteArray) (k:Nat) (o:ByteArray),sv=U x/\j=I J k/\u=U o/\(k:Int)<=4000/\Hid (o.size+x.size*k<=s.size*n)) (fun _ j _=>(intOf j).toNat);case atStart=>exact⟨s,n,⟨#[]⟩,rfl,rfl,rfl,hn,by show 0+s.size*n<=_;omega⟩
 case round =>
  obtain⟨x,k,o,rfl,rfl,rfl,hk,b⟩:=hrel;by_cases hz:(k:Int)=0
  ·obtain rfl:k=0:=by omega
   have q:o.size<=s.size*n:=by have:=b.out;omega
   have f:=ae q;clear q;go_wp2;go_ret;exact⟨o,rfl,f,rfl⟩
  ·have hpos:0<(k:Int):=by omega
   have l:x.size<=x.size*k:=Nat.le_mul_of_pos_right _ (by omega);have hx2:(x.size:Int)<=4000:=by have:=b.out;have:=ZB.out;omega
   have ho2:(o.size:Int)<=4000:=by have:=b.out;have:=ZB.out;omega
   have q5:(k:Int).tmod 2=(k:Int) % 2:=LB (by omega);have g:(x++x).size=x.size+x.size:=by simp
   have p:(o++x).size=o.size+x.size:=by simp
   have c:(x.size+x.size)*(k / 2)+x.size*(k % 2)=x.size*k:=by rw[show x.size*k=x.size*(2*(k / 2)+k % 2) by rw[Nat.div_add_mod]];rw[Nat.mul_add,<-Nat.mul_assoc,Nat.mul_two]
   have m:=ae c;clear c l;by_cases hodd:(k:Int) % 2=1
   ·have f:Hid (k % 2=1):=by show k % 2=1;omega
    go_wp2;refine⟨⟨x++x,k / 2,o++x,rfl,by go_num,rfl,by omega,?_⟩,by simp[intOf];omega⟩;show(o++x).size+(x++x).size*(k / 2)<=s.size*n;have:=b.out;have i:=m.out;rw[f.out,Nat.mul_one] at i;rw[g,p];omega
   ·have f:Hid (k % 2=0):=by show k % 2=0;omega
    go_wp2;refine⟨⟨x++x,k / 2,o,rfl,by go_num,rfl,by omega,?_⟩,by simp[intOf];omega⟩;show o.size+(x++x).size*(k / 2)<=s.size*n;have:=b.out;have i:=m.out;rw[f.out,Nat.mul_zero] at i;rw[g];omega
end Go.Proofs.YtamacmnikdejeaaGreatDoor.Vp
