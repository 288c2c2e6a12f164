import Derived.Test.YtamacmnikdejeaaGreatDoorML
import Derived.Laws.BitsAllLaws
set_option maxHeartbeats 2000000
open Go renaming Addr.mk->Q,Value.slice->Y,Value.string->U,Value.int->J,IntKind.i64->I,World->E,Ending.returned->ZF,World.cell?->N,Proofs.Tryz.prog->Pg
open Option renaming none->Z,some->T
open Bool renaming false->ZA
namespace Go.Proofs.YtamacmnikdejeaaGreatDoor.Vp
open Tryz RowKit
variable {w g:E}{R p n:Nat}{a:Option Addr}
theorem vm (a b:Nat)(f:a<4611686018427387904)(hb:b<4611686018427387904):∃x:Nat,bits .xor I (a:Int) (b:Int)=x/\x<4611686018427387904:=by
 have hx:a ^^^ b<2 ^ 62:=Nat.xor_lt_two_pow (by omega) (by omega);refine⟨a ^^^ b,?_,by omega⟩;show IntKind.i64.wrap ((BitVec.ofInt 64 (a:Int) ^^^ BitVec.ofInt 64 (b:Int)).toNat:Int)=_;have e:∀x:Nat,x<4611686018427387904->(BitVec.ofInt 64 (x:Int)).toNat=x:=λx h=>by rw[BitVec.toNat_ofInt];omega
 rw[BitVec.toNat_xor,e a f,e b hb,p9];omega
def SlByte (w:E)(R:Nat)(a:Option Addr)(n:Nat):Prop:=n=0∨∃b off,a=T (Q b off Z)/\b<R/\b<w.heap.size/\∀i,i<n->∃u:Nat,u<256/\N w (Q b (off+i) Z)=T (J .u8 u)
theorem SlByte.ac{j:E}(h:SlByte w R a n)(g:Only R w j):SlByte j R a n:=by
 rcases h with h|⟨b,off,e,hb,l,o⟩
 {exact .inl h};{refine .inr ⟨b,off,e,hb,lj l g.size,λi hi=>?_⟩;obtain⟨u,m,f⟩:=o i hi;exact⟨u,m,(g.cell b _ l (by omega)).trans f⟩}
def Rd (w:E)(R p:Nat):Prop:=∃a n cap,R<w.heap.size/\n<=2000/\N w (Q R 0 Z)=T (Y a n cap)/\(N w (Q R 1 Z)=T (J I p)/\w.frozen? (Q R 1 Z)=ZA)/\SlByte w R a n
theorem Rd.lt (h:Rd w R p):R<w.heap.size:=by obtain⟨_,_,_,h,_⟩:=h;exact h
theorem Rd.aa{B:Nat}(h:Rd w R p)(hb:Below B w g)(b:w.heap.size<=B):Rd g R p:=by obtain⟨a,n,cap,f,hn,j,⟨h1,h2⟩,i⟩:=h;refine⟨a,n,cap,lj f hb.size,hn,(hb.cell (p:=(Q R 0 Z)) (lj f b)).trans j,⟨(hb.cell (p:=(Q R 1 Z)) (lj f b)).trans h1,(hb.frozen (p:=(Q R 1 Z)) (lj f b)).trans h2⟩,?_⟩;exact i.ac (Only.q (hb.mono b))
theorem Rd.low{m:E}{B:Nat}(h:Rd w R p)(hb:Below B w m)(f:R<B):Rd m R p:=by
 obtain⟨a,n,cap,r,hn,t,⟨h1,h2⟩,s⟩:=h;refine⟨a,n,cap,lj r hb.size,hn,(hb.cell (p:=(Q R 0 Z)) f).trans t,⟨(hb.cell (p:=(Q R 1 Z)) f).trans h1,(hb.frozen (p:=(Q R 1 Z)) f).trans h2⟩,?_⟩;rcases s with h|⟨b,off,e,j,l,q⟩
 {exact .inl h};{refine .inr ⟨b,off,e,j,lj l hb.size,λi hi=>?_⟩;obtain⟨u,o,g⟩:=q i hi;exact⟨u,o,(hb.cell (p:=(Q b _ Z)) (Nat.lt_trans j f)).trans g⟩}
theorem Only.then{u v:E}(h:Only R u v)(k:Below u.heap.size v w):Only R u w :=
 ⟨k.os.trans h.os,k.tape.trans h.tape,k.output.trans h.output,nL h.size k.size,λi hi f=>(k.block i hi).trans (h.block i hi f),λb t fz hb=>let ⟨cs1,h1⟩:=h.ty b t fz hb;⟨cs1,(k.block R (ar hb)).trans h1⟩⟩
theorem Rd.step (h:Rd w R p):Rd (w.setCell (Q R 1 Z) (J I ((p:Int)+1))) R (p+1):=by obtain⟨a,n,cap,b,hn,g,⟨h1,h2⟩,f⟩:=h;refine⟨a,n,cap,by simpa using b,hn,(sq _ _ _ _ (by simp)).trans g,⟨?_,by simpa using h2⟩,f.ac (ce (Only.refl R w) 1 _)⟩;rw[BO _ _ _ (by rw[h1];rfl)];rfl
theorem Bi (R p:Nat)(m:Int)(a:Option Addr)(cap:Nat)(w:E)(h0:N w (Q R 0 Z)=T (Y a 0 cap))(h1:N w (Q R 1 Z)=T (J I p))(h2:w.frozen? (Q R 1 Z)=ZA)(hp:(p:Int)<=100000)(hm:1<=m):Calls Pg 33 #[.pointer (T (Q R 0 Z)),J I m] w λe b=>e=ZF (J I 0)/\b=w.setCell (Q R 1 Z) (J I ((p:Int)+1)):=by go_enter func33,ntmps33;go_wp2;go_ret;exact⟨rfl,rfl⟩
theorem EC (R p:Nat)(m:Int)(b off n cap u:Nat)(w:E)(h0:N w (Q R 0 Z)=T (Y (T (Q b off Z)) n cap))(h1:N w (Q R 1 Z)=T (J I p))(h2:w.frozen? (Q R 1 Z)=ZA)(hp:(p:Int)<=100000)(hm:1<=m)(hm2:m<=100000)
  (hlt:p<n) (hb:b<R) (hu:u<256) (g:N w (Q b (off+p) Z)=T (J .u8 u)) :
  Calls Pg 33 #[.pointer (T (Q R 0 Z)),J I m] w λe i=>∃z:Int,e=ZF (J I z)/\0<=z/\z<m/\i=w.setCell (Q R 1 Z) (J I ((p:Int)+1)):=by
 have hc':(w.setCell (Q R 1 Z) (J I ((p:Int)+1))).cell? (Q b (off+p) Z)=T (J .u8 u):=(cell_far _ _ _ _ (by simp;omega)).trans g;obtain⟨z,hz,f,h⟩:∃z:Int,(u:Int).tmod m=z/\0<=z/\z<m:=⟨_,rfl,Int.tmod_nonneg _ (by omega),Int.tmod_lt_of_pos _ (by omega)⟩
 have hm0:¬ m=0:=by omega
 have hq:(decide (m<1) || ((n:Int) == 0))=ZA:=by simp;omega
 clear g;go_enter func33,ntmps33;go_wp2;go_ret;exact⟨z,rfl,f,h,rfl⟩
theorem Bj (R p:Nat)(m:Int)(b off n cap u v:Nat)(w:E)(ZP:N w (Q R 0 Z)=T (Y (T (Q b off Z)) n cap))(h1:N w (Q R 1 Z)=T (J I p))(h2:w.frozen? (Q R 1 Z)=ZA)(hp:(p:Int)<=100000)(hm:1<=m)(hm2:m<=100000)
  (hlt:¬ p<n) (hn1:1<=n) (hn:n<=2000) (hb:b<R) (hu:u<256) (hv:v<256) (o:w.cell? ⟨b,off+p % n,Z⟩=T (J .u8 u)) (l:w.cell? ⟨b,off+(p*7+3) % n,Z⟩=T (J .u8 v)) :
  Calls Pg 33 #[.pointer (T (Q R 0 Z)),J I m] w λe H=>∃z:Int,e=ZF (J I z)/\0<=z/\z<m/\Below (w.setCell (Q R 1 Z) (J I ((p:Int)+1))).heap.size (w.setCell (Q R 1 Z) (J I ((p:Int)+1))) H:=by
 obtain⟨i,hi⟩:∃i,i=p % n:=⟨_,rfl⟩
 obtain⟨j,g⟩:∃j,j=(p*7+3) % n:=⟨_,rfl⟩
 obtain⟨d,f⟩:∃d,d=p / n:=⟨_,rfl⟩
 have hi2:i<n:=by rw[hi];exact QE _ (by omega)
 have hj2:j<n:=by rw[g];exact QE _ (by omega)
 have hd2:d<=p:=by rw[f];exact Nat.div_le_self _ _
 have e1:(p:Int).tmod n=i:=by rw[hi];rfl
 have e2:((p:Int)*7+3).tmod n=j:=by rw[g];rfl
 have e3:(p:Int) / n=d:=by rw[f];rfl
 rw[<-hi] at o;rw[<-g] at l;have r:(w.setCell (Q R 1 Z) (J I ((p:Int)+1))).cell? (Q b (off+i) Z)=T (J .u8 u):=(cell_far _ _ _ _ (by simp;omega)).trans o;have q:(w.setCell (Q R 1 Z) (J I ((p:Int)+1))).cell? (Q b (off+j) Z)=T (J .u8 v):=(cell_far _ _ _ _ (by simp;omega)).trans l;have C:(w.setCell (Q R 1 Z) (J I ((p:Int)+1))).cell? (Q R 0 Z)=T (Y (T (Q b off Z)) n cap):=(sq _ _ _ _ (by simp)).trans ZP;obtain⟨x,s,hx2⟩:∃x:Nat,(u:Int)*131+v*1117+p*29+d*53=x/\x<1000000000000:=⟨u*131+v*1117+p*29+d*53,by omega,by omega⟩
 obtain⟨y,h,hy2⟩:=vm x (x / 64) (by omega) (by omega);rw[show((x / 64:Nat):Int)=(x:Int) / 64 from rfl] at h;obtain⟨z,hz,A,B⟩:∃z:Int,(y:Int).tmod m=z/\0<=z/\z<m:=⟨_,rfl,Int.tmod_nonneg _ (by omega),Int.tmod_lt_of_pos _ (by omega)⟩
 have hm0:¬ m=0:=by omega
 have hq:(decide (m<1) || ((n:Int) == 0))=ZA:=by simp;omega
 have hn0:¬ (n:Int)=0:=by omega
 have hge:(n:Int)<=p:=by omega
 have ZQ:=ae s;have D:=ae h;have G:=ae hz;clear hi g o l s h hz f;go_enter func33,ntmps33;go_wp2_with fail;go_quiet (fail);have t:=ae (AI (cM (w.setCell (Q R 1 Z) (J I ((p:Int)+1))).heap.size (w.setCell (Q R 1 Z) (J I ((p:Int)+1)))) nq);rw[ZQ.out];clear r q C;generalize (w.setCell (Q R 1 Z) (J I ((p:Int)+1))).drewN nq=W at t ⊢;have h:=D.out;have hz:=G.out;go_wp2;go_ret;exact⟨z,rfl,A,B,t⟩
theorem ay (R p:Nat)(m:Int)(w:E)(hR:Rd w R p)(x:(p:Int)<=100000)(y:1<=m)(t:m<=100000):Calls Pg 33 #[.pointer (T (Q R 0 Z)),J I m] w λe q=>∃z:Int,e=ZF (J I z)/\0<=z/\z<m/\Rd q R (p+1)/\Only R w q:=by
 have hR':=hR;have hst:=hR.step;have o:Only R w (w.setCell (Q R 1 Z) (J I ((p:Int)+1))):=ce (Only.refl R w) 1 _;obtain⟨a,n,cap,hl,hn,C,⟨h1,h2⟩,ZQ⟩:=hR;by_cases hz:n=0;{subst hz;exact(Bi R p m a cap w C h1 h2 x y).mono λe q ⟨j,g⟩=>⟨0,j,by omega,by omega,by rw[g];exact hst,by rw[g];exact o⟩}
 ·rcases ZQ with h|⟨b,off,rfl,hb,hbl,A⟩
  {exact absurd h hz};{by_cases r:p<n;{obtain⟨u,B,f⟩:=A p r;exact(EC R p m b off n cap u w C h1 h2 x y t r hb B f).mono λe q ⟨z,j,l,s,g⟩=>⟨z,j,l,s,by rw[g];exact hst,by rw[g];exact o⟩};{obtain⟨u,B,f⟩:=A (p % n) (QE _ (by omega));obtain⟨v,G,i⟩:=A ((p*7+3) % n) (QE _ (by omega));exact(Bj R p m b off n cap u v w C h1 h2 x y t r (by omega) hn hb B G f i).mono λe q ⟨z,j,l,s,D⟩=>⟨z,j,l,s,hst.aa D ly,o.trans (Only.q D)⟩}}
def ByteSl (w:E)(a:Option Addr)(n:Nat):Prop:=n=0∨∃b off,a=T (Q b off Z)/\b<w.heap.size/\∀i,i<n->∃u:Nat,u<256/\N w (Q b (off+i) Z)=T (J .u8 u)
theorem ByteSl.aa{B:Nat}(h:ByteSl w a n)(hb:Below B w g)(l:w.heap.size<=B):ByteSl g a n:=by
 rcases h with h|⟨b,off,e,j,o⟩
 {exact .inl h};{refine .inr ⟨b,off,e,lj j hb.size,λi hi=>?_⟩;obtain⟨u,m,f⟩:=o i hi;exact⟨u,m,(hb.cell (p:=(Q b _ Z)) (lj j l)).trans f⟩}
theorem tu{k cap:Nat}(h:ByteSl w a n)(hk:k<=n)(j:k<=2000)(t:TypeId):Rd (w.alloc (.cells #[Y a k cap,J I 0] t)) w.heap.size 0:=by
 refine⟨a,k,cap,by simp,j,by simp,⟨by simp,by simp⟩,?_⟩;rcases h with h|⟨b,off,e,g,m⟩
 {exact .inl (by omega)};{refine .inr ⟨b,off,e,g,by simp;omega,λi hi=>?_⟩;obtain⟨u,l,f⟩:=m i (by omega);exact⟨u,l,(((BS w).alloc ly _).cell (p:=(Q b _ Z)) g).trans f⟩}
theorem xz (b off n cap:Nat)(w:E)(hn:(n:Int)<=1048576)(hc:n<=cap)(g:ByteSl w (T (Q b off Z)) n):Calls Pg 31 #[Y (T (Q b off Z)) n cap] w λe i=>∃R,e=ZF (.pointer (T (Q R 0 Z)))/\w.heap.size<=R/\Rd i R 0/\Below w.heap.size w i:=by
 have f:=ae g;clear g;by_cases h:(2000:Int)<n;all_goals
  go_enter func31,ntmps31;go_wp2;go_ret;first
   |exact⟨_,rfl,nX _,tu f (k:=2000) (by omega) (by omega) _,br.alloc ly _⟩
   |exact⟨_,rfl,nX _,tu f (k:=n) (by omega) (by omega) _,br.alloc ly _⟩
theorem xA (a:Option Addr)(cap:Nat)(w:E):Calls Pg 31 #[Y a 0 cap] w λe b=>∃R,e=ZF (.pointer (T (Q R 0 Z)))/\w.heap.size<=R/\Rd b R 0/\Below w.heap.size w b:=by have f:Hid (ByteSl w a 0):=.inl rfl;go_enter func31,ntmps31;go_wp2;go_ret;exact⟨_,rfl,nX _,tu f (k:=0) (by omega) (by omega) _,br.alloc ly _⟩
theorem xB (a:Option Addr)(n cap:Nat)(w:E)(hn:(n:Int)<=1048576)(i:n<=cap)(f:ByteSl w a n):Calls Pg 31 #[Y a n cap] w λe g=>∃R,e=ZF (.pointer (T (Q R 0 Z)))/\w.heap.size<=R/\Rd g R 0/\Below w.heap.size w g:=by
 have h:=f;rcases f with rfl|⟨b,off,rfl,_,_⟩
 {exact xA a cap w};{exact xz b off n cap w hn i h}
theorem eW (s:ByteArray)(n:Nat)(w:E)(h:s.size*n<=4000)(hn:(n:Int)<=4000):Calls Pg 63 #[U s,J I n] w λe y=>∃t:ByteArray,e=ZF (U t)/\t.size<=s.size*n/\y=w:=by
 have H:=ae h;clear h;go_enter func63,ntmps63;go_wp2;go_loop [0,1,5] (λsv l u=>∃(x:ByteArray) (k:Nat) (o:ByteArray),sv=U x/\l=J I k/\u=U o/\(k:Int)<=4000/\Hid (o.size+x.size*k<=s.size*n)) (λ_ l _=>(intOf l).toNat);case atStart=>exact⟨s,n,⟨#[]⟩,rfl,rfl,rfl,hn,by show 0+s.size*n<=_;omega⟩
 case round =>
  obtain⟨x,k,o,rfl,rfl,rfl,hk,g⟩:=hrel;by_cases hz:(k:Int)=0
  ·obtain rfl:k=0:=by omega
   have q:o.size<=s.size*n:=by have:=g.out;omega
   have b:=ae q;clear q;go_wp2;go_ret;exact⟨o,rfl,b,rfl⟩
  ·have hpos:0<(k:Int):=by omega
   have r:x.size<=x.size*k:=Nat.le_mul_of_pos_right _ (by omega);have hx2:(x.size:Int)<=4000:=by have:=g.out;have:=H.out;omega
   have ho2:(o.size:Int)<=4000:=by have:=g.out;have:=H.out;omega
   have q5:(k:Int).tmod 2=(k:Int) % 2:=NR (by omega);have i:(x++x).size=x.size+x.size:=by simp
   have p:(o++x).size=o.size+x.size:=by simp
   have f:(x.size+x.size)*(k / 2)+x.size*(k % 2)=x.size*k:=by rw[show x.size*k=x.size*(2*(k / 2)+k % 2) by rw[Nat.div_add_mod]];rw[Nat.mul_add,<-Nat.mul_assoc,Nat.mul_two]
   have m:=ae f;clear f r;by_cases hodd:(k:Int) % 2=1
   ·have b:Hid (k % 2=1):=by show k % 2=1;omega
    go_wp2;refine⟨⟨x++x,k / 2,o++x,rfl,by go_num,rfl,by omega,?_⟩,by simp[intOf];omega⟩;show(o++x).size+(x++x).size*(k / 2)<=s.size*n;have:=g.out;have j:=m.out;rw[b.out,Nat.mul_one] at j;rw[i,p];omega
   ·have b:Hid (k % 2=0):=by show k % 2=0;omega
    go_wp2;refine⟨⟨x++x,k / 2,o,rfl,by go_num,rfl,by omega,?_⟩,by simp[intOf];omega⟩;show o.size+(x++x).size*(k / 2)<=s.size*n;have:=g.out;have j:=m.out;rw[b.out,Nat.mul_zero] at j;rw[i];omega
