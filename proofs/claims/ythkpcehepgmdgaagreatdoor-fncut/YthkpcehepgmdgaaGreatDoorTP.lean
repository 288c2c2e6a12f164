import Derived.Test.YthkpcehepgmdgaaGreatDoorTM
import Derived.Laws.BitsAllLaws
set_option maxHeartbeats 2000000
open Go renaming Addr.mk->Q,Value.slice->Z,Value.string->U,Value.int->J,IntKind.i64->I,World->G,Ending.returned->ZG,World.cell?->A,World.setCell->N,Proofs.Tryz.prog->Pg
open Option renaming none->Y,some->T
open Bool renaming false->ZB
namespace Go.Proofs.YthkpcehepgmdgaaGreatDoor.Vp
open Tryz RowKit
variable {w:G}{R p n B:Nat}{a:Option Addr}
theorem vb (a b:Nat)(f:a<4611686018427387904)(hb:b<4611686018427387904):∃x:Nat,bits .xor I (a:Int) (b:Int)=x/\x<4611686018427387904:=by
 have hx:a ^^^ b<2 ^ 62:=Nat.xor_lt_two_pow (by omega) (by omega);refine⟨a ^^^ b,?_,by omega⟩;show IntKind.i64.wrap ((BitVec.ofInt 64 (a:Int) ^^^ BitVec.ofInt 64 (b:Int)).toNat:Int)=_;have e:∀x:Nat,x<4611686018427387904->(BitVec.ofInt 64 (x:Int)).toNat=x:=λx h=>by rw[BitVec.toNat_ofInt];omega
 rw[BitVec.toNat_xor,e a f,e b hb,nL];omega
def SlByte (w:G)(R:Nat)(a:Option Addr)(n:Nat):Prop:=n=0∨∃b off,a=T (Q b off Y)/\b<R/\b<w.heap.size/\∀i,i<n->∃u:Nat,u<256/\A w (Q b (off+i) Y)=T (J .u8 u)
theorem SlByte.ac{l:G}(h:SlByte w R a n)(g:Only R w l):SlByte l R a n:=by
 rcases h with h|⟨b,off,e,hb,j,m⟩
 {exact .inl h};{refine .inr ⟨b,off,e,hb,lj j g.size,λi hi=>?_⟩;obtain⟨u,o,f⟩:=m i hi;exact⟨u,o,(g.cell b _ j (by omega)).trans f⟩}
def Rd (w:G)(R p:Nat):Prop:=∃a n cap,R<w.heap.size/\n<=2000/\A w (Q R 0 Y)=T (Z a n cap)/\(A w (Q R 1 Y)=T (J I p)/\w.frozen? (Q R 1 Y)=ZB)/\SlByte w R a n
theorem Rd.lt (h:Rd w R p):R<w.heap.size:=by obtain⟨_,_,_,h,_⟩:=h;exact h
theorem Rd.aa{g:G}(h:Rd w R p)(hb:Below B w g)(b:w.heap.size<=B):Rd g R p:=by obtain⟨a,n,cap,f,hn,j,⟨h1,h2⟩,i⟩:=h;refine⟨a,n,cap,lj f hb.size,hn,(hb.cell (p:=(Q R 0 Y)) (lj f b)).trans j,⟨(hb.cell (p:=(Q R 1 Y)) (lj f b)).trans h1,(hb.frozen (p:=(Q R 1 Y)) (lj f b)).trans h2⟩,?_⟩;exact i.ac (Only.q (hb.mono b))
theorem Rd.low{m:G}(h:Rd w R p)(hb:Below B w m)(f:R<B):Rd m R p:=by
 obtain⟨a,n,cap,r,hn,s,⟨h1,h2⟩,q⟩:=h;refine⟨a,n,cap,lj r hb.size,hn,(hb.cell (p:=(Q R 0 Y)) f).trans s,⟨(hb.cell (p:=(Q R 1 Y)) f).trans h1,(hb.frozen (p:=(Q R 1 Y)) f).trans h2⟩,?_⟩;rcases q with h|⟨b,off,e,j,l,o⟩
 {exact .inl h};{refine .inr ⟨b,off,e,j,lj l hb.size,λi hi=>?_⟩;obtain⟨u,t,g⟩:=o i hi;exact⟨u,t,(hb.cell (p:=(Q b _ Y)) (Nat.lt_trans j f)).trans g⟩}
theorem Only.then{u v:G}(h:Only R u v)(k:Below u.heap.size v w):Only R u w :=
 ⟨k.os.trans h.os,k.tape.trans h.tape,k.output.trans h.output,AD h.size k.size,λi hi b=>(k.block i hi).trans (h.block i hi b),λf t fz hb=>let ⟨cs1,h1⟩:=h.ty f t fz hb;⟨cs1,(k.block R (ag hb)).trans h1⟩⟩
theorem Rd.step (h:Rd w R p):Rd (N w (Q R 1 Y) (J I ((p:Int)+1))) R (p+1):=by obtain⟨a,n,cap,f,hn,g,⟨h1,h2⟩,b⟩:=h;refine⟨a,n,cap,by simpa using f,hn,(sq _ _ _ _ (by simp)).trans g,⟨?_,by simpa using h2⟩,b.ac (cj (Only.refl R w) 1 _)⟩;rw[AT _ _ _ (by rw[h1];rfl)];rfl
theorem Bb (R p:Nat)(m:Int)(a:Option Addr)(cap:Nat)(w:G)(h0:A w (Q R 0 Y)=T (Z a 0 cap))(h1:A w (Q R 1 Y)=T (J I p))(h2:w.frozen? (Q R 1 Y)=ZB)(hp:(p:Int)<=100000)(hm:1<=m):Calls Pg 13 #[.pointer (T (Q R 0 Y)),J I m] w λe b=>e=ZG (J I 0)/\b=N w (Q R 1 Y) (J I ((p:Int)+1)):=by go_enter func13,ntmps13;go_wp2;go_ret;exact⟨rfl,rfl⟩
theorem Eo (R p:Nat)(m:Int)(b off n cap u:Nat)(w:G)(h0:A w (Q R 0 Y)=T (Z (T (Q b off Y)) n cap))(h1:A w (Q R 1 Y)=T (J I p))(h2:w.frozen? (Q R 1 Y)=ZB)(hp:(p:Int)<=100000)(hm:1<=m)(hm2:m<=1000000)
  (hlt:p<n) (hb:b<R) (hu:u<256) (f:A w (Q b (off+p) Y)=T (J .u8 u)) :
  Calls Pg 13 #[.pointer (T (Q R 0 Y)),J I m] w λe i=>∃z:Int,e=ZG (J I z)/\0<=z/\z<m/\i=N w (Q R 1 Y) (J I ((p:Int)+1)):=by
 have hc':A (N w (Q R 1 Y) (J I ((p:Int)+1))) (Q b (off+p) Y)=T (J .u8 u):=(cell_far _ _ _ _ (by simp;omega)).trans f;obtain⟨z,hz,h,g⟩:∃z:Int,(u:Int).tmod m=z/\0<=z/\z<m:=⟨_,rfl,Int.tmod_nonneg _ (by omega),Int.tmod_lt_of_pos _ (by omega)⟩
 have hm0:¬ m=0:=by omega
 have hq:(decide (m<1) || ((n:Int) == 0))=ZB:=by simp;omega
 clear f;go_enter func13,ntmps13;go_wp2;go_ret;exact⟨z,rfl,h,g,rfl⟩
theorem Bc (R p:Nat)(m:Int)(b off n cap u v:Nat)(w:G)(H:A w (Q R 0 Y)=T (Z (T (Q b off Y)) n cap))(h1:A w (Q R 1 Y)=T (J I p))(h2:w.frozen? (Q R 1 Y)=ZB)(hp:(p:Int)<=100000)(hm:1<=m)(hm2:m<=1000000)
  (hlt:¬ p<n) (hn1:1<=n) (hn:n<=2000) (hb:b<R) (hu:u<256) (hv:v<256) (l:w.cell? ⟨b,off+p % n,Y⟩=T (J .u8 u)) (o:w.cell? ⟨b,off+(p*7+3) % n,Y⟩=T (J .u8 v)) :
  Calls Pg 13 #[.pointer (T (Q R 0 Y)),J I m] w λe ZQ=>∃z:Int,e=ZG (J I z)/\0<=z/\z<m/\Below (N w (Q R 1 Y) (J I ((p:Int)+1))).heap.size (N w (Q R 1 Y) (J I ((p:Int)+1))) ZQ:=by
 obtain⟨i,hi⟩:∃i,i=p % n:=⟨_,rfl⟩
 obtain⟨j,h⟩:∃j,j=(p*7+3) % n:=⟨_,rfl⟩
 obtain⟨d,f⟩:∃d,d=p / n:=⟨_,rfl⟩
 have hi2:i<n:=by rw[hi];exact PE _ (by omega)
 have hj2:j<n:=by rw[h];exact PE _ (by omega)
 have hd2:d<=p:=by rw[f];exact Nat.div_le_self _ _
 have e1:(p:Int).tmod n=i:=by rw[hi];rfl
 have e2:((p:Int)*7+3).tmod n=j:=by rw[h];rfl
 have e3:(p:Int) / n=d:=by rw[f];rfl
 rw[<-hi] at l;rw[<-h] at o;have r:A (N w (Q R 1 Y) (J I ((p:Int)+1))) (Q b (off+i) Y)=T (J .u8 u):=(cell_far _ _ _ _ (by simp;omega)).trans l;have B:A (N w (Q R 1 Y) (J I ((p:Int)+1))) (Q b (off+j) Y)=T (J .u8 v):=(cell_far _ _ _ _ (by simp;omega)).trans o;have C:A (N w (Q R 1 Y) (J I ((p:Int)+1))) (Q R 0 Y)=T (Z (T (Q b off Y)) n cap):=(sq _ _ _ _ (by simp)).trans H;obtain⟨x,s,hx2⟩:∃x:Nat,(u:Int)*131+v*1117+p*29+d*53=x/\x<1000000000000:=⟨u*131+v*1117+p*29+d*53,by omega,by omega⟩
 obtain⟨y,g,hy2⟩:=vb x (x / 64) (by omega) (by omega);rw[show((x / 64:Nat):Int)=(x:Int) / 64 from rfl] at g;obtain⟨z,hz,ZT,q⟩:∃z:Int,(y:Int).tmod m=z/\0<=z/\z<m:=⟨_,rfl,Int.tmod_nonneg _ (by omega),Int.tmod_lt_of_pos _ (by omega)⟩
 have hm0:¬ m=0:=by omega
 have hq:(decide (m<1) || ((n:Int) == 0))=ZB:=by simp;omega
 have hn0:¬ (n:Int)=0:=by omega
 have hge:(n:Int)<=p:=by omega
 have E:=ae s;have ZS:=ae g;have D:=ae hz;clear hi h l o s g hz f;go_enter func13,ntmps13;go_wp2_with fail;go_quiet (fail);have t:=ae (BG (cM (N w (Q R 1 Y) (J I ((p:Int)+1))).heap.size (N w (Q R 1 Y) (J I ((p:Int)+1)))) nq);rw[E.out];clear r B C;generalize (N w (Q R 1 Y) (J I ((p:Int)+1))).drewN nq=W at t ⊢;have g:=ZS.out;have hz:=D.out;go_wp2;go_ret;exact⟨z,rfl,ZT,q,t⟩
theorem ar (R p:Nat)(m:Int)(w:G)(hR:Rd w R p)(y:(p:Int)<=100000)(ZT:1<=m)(t:m<=1000000):Calls Pg 13 #[.pointer (T (Q R 0 Y)),J I m] w λe s=>∃z:Int,e=ZG (J I z)/\0<=z/\z<m/\Rd s R (p+1)/\Only R w s:=by
 have hR':=hR;have hst:=hR.step;have j:Only R w (N w (Q R 1 Y) (J I ((p:Int)+1))):=cj (Only.refl R w) 1 _;obtain⟨a,n,cap,hl,hn,B,⟨h1,h2⟩,ZS⟩:=hR;by_cases hz:n=0;{subst hz;exact(Bb R p m a cap w B h1 h2 y ZT).mono λe s ⟨g,l⟩=>⟨0,g,by omega,by omega,by rw[l];exact hst,by rw[l];exact j⟩}
 ·rcases ZS with h|⟨b,off,rfl,hb,hbl,x⟩
  {exact absurd h hz};{by_cases o:p<n;{obtain⟨u,C,f⟩:=x p o;exact(Eo R p m b off n cap u w B h1 h2 y ZT t o hb C f).mono λe s ⟨z,g,q,i,l⟩=>⟨z,g,q,i,by rw[l];exact hst,by rw[l];exact j⟩};{obtain⟨u,C,f⟩:=x (p % n) (PE _ (by omega));obtain⟨v,E,r⟩:=x ((p*7+3) % n) (PE _ (by omega));exact(Bc R p m b off n cap u v w B h1 h2 y ZT t o (by omega) hn hb C E f r).mono λe s ⟨z,g,q,i,D⟩=>⟨z,g,q,i,hst.aa D ly,j.trans (Only.q D)⟩}}
def ByteSl (w:G)(a:Option Addr)(n:Nat):Prop:=n=0∨∃b off,a=T (Q b off Y)/\b<w.heap.size/\∀i,i<n->∃u:Nat,u<256/\A w (Q b (off+i) Y)=T (J .u8 u)
theorem ByteSl.aa{j:G}(h:ByteSl w a n)(hb:Below B w j)(l:w.heap.size<=B):ByteSl j a n:=by
 rcases h with h|⟨b,off,e,g,m⟩
 {exact .inl h};{refine .inr ⟨b,off,e,lj g hb.size,λi hi=>?_⟩;obtain⟨u,o,f⟩:=m i hi;exact⟨u,o,(hb.cell (p:=(Q b _ Y)) (lj g l)).trans f⟩}
theorem sW{k cap:Nat}(h:ByteSl w a n)(hk:k<=n)(g:k<=2000)(t:TypeId):Rd (w.alloc (.cells #[Z a k cap,J I 0] t)) w.heap.size 0:=by
 refine⟨a,k,cap,by simp,g,by simp,⟨by simp,by simp⟩,?_⟩;rcases h with h|⟨b,off,e,j,l⟩
 {exact .inl (by omega)};{refine .inr ⟨b,off,e,j,by simp;omega,λi hi=>?_⟩;obtain⟨u,m,f⟩:=l i (by omega);exact⟨u,m,(((q9 w).alloc ly _).cell (p:=(Q b _ Y)) j).trans f⟩}
theorem xy (b off n cap:Nat)(w:G)(hn:(n:Int)<=1048576)(hc:n<=cap)(g:ByteSl w (T (Q b off Y)) n):Calls Pg 12 #[Z (T (Q b off Y)) n cap] w λe i=>∃R,e=ZG (.pointer (T (Q R 0 Y)))/\w.heap.size<=R/\Rd i R 0/\Below w.heap.size w i:=by
 have f:=ae g;clear g;by_cases h:(2000:Int)<n;all_goals
  go_enter func12,ntmps12;go_wp2;go_ret;first
   |exact⟨_,rfl,j6 _,sW f (k:=2000) (by omega) (by omega) _,br.alloc ly _⟩
   |exact⟨_,rfl,j6 _,sW f (k:=n) (by omega) (by omega) _,br.alloc ly _⟩
theorem xz (a:Option Addr)(cap:Nat)(w:G):Calls Pg 12 #[Z a 0 cap] w λe b=>∃R,e=ZG (.pointer (T (Q R 0 Y)))/\w.heap.size<=R/\Rd b R 0/\Below w.heap.size w b:=by have f:Hid (ByteSl w a 0):=.inl rfl;go_enter func12,ntmps12;go_wp2;go_ret;exact⟨_,rfl,j6 _,sW f (k:=0) (by omega) (by omega) _,br.alloc ly _⟩
theorem kU (a:Option Addr)(n cap:Nat)(w:G)(hn:(n:Int)<=1048576)(i:n<=cap)(g:ByteSl w a n):Calls Pg 12 #[Z a n cap] w λe h=>∃R,e=ZG (.pointer (T (Q R 0 Y)))/\w.heap.size<=R/\Rd h R 0/\Below w.heap.size w h:=by
 have f:=g;rcases g with rfl|⟨b,off,rfl,_,_⟩
 {exact xz a cap w};{exact xy b off n cap w hn i f}
theorem eZ (s:ByteArray)(n:Nat)(w:G)(h:s.size*n<=4000)(hn:(n:Int)<=4000):Calls Pg 53 #[U s,J I n] w λe u=>∃t:ByteArray,e=ZG (U t)/\t.size<=s.size*n/\u=w:=by
 have H:=ae h;clear h;go_enter func53,ntmps53;go_wp2;go_loop [0,1,5] (λsv l y=>∃(x:ByteArray) (k:Nat) (o:ByteArray),sv=U x/\l=J I k/\y=U o/\(k:Int)<=4000/\Hid (o.size+x.size*k<=s.size*n)) (λ_ l _=>(intOf l).toNat);case atStart=>exact⟨s,n,⟨#[]⟩,rfl,rfl,rfl,hn,by show 0+s.size*n<=_;omega⟩
 case round =>
  obtain⟨x,k,o,rfl,rfl,rfl,hk,f⟩:=hrel;by_cases hz:(k:Int)=0
  ·obtain rfl:k=0:=by omega
   have p:o.size<=s.size*n:=by have:=f.out;omega
   have g:=ae p;clear p;go_wp2;go_ret;exact⟨o,rfl,g,rfl⟩
  ·have hpos:0<(k:Int):=by omega
   have q:x.size<=x.size*k:=Nat.le_mul_of_pos_right _ (by omega);have hx2:(x.size:Int)<=4000:=by have:=f.out;have:=H.out;omega
   have ho2:(o.size:Int)<=4000:=by have:=f.out;have:=H.out;omega
   have q5:(k:Int).tmod 2=(k:Int) % 2:=MQ (by omega);have i:(x++x).size=x.size+x.size:=by simp
   have r:(o++x).size=o.size+x.size:=by simp
   have b:(x.size+x.size)*(k / 2)+x.size*(k % 2)=x.size*k:=by rw[show x.size*k=x.size*(2*(k / 2)+k % 2) by rw[Nat.div_add_mod]];rw[Nat.mul_add,<-Nat.mul_assoc,Nat.mul_two]
   have m:=ae b;clear b q;by_cases hodd:(k:Int) % 2=1
   ·have g:Hid (k % 2=1):=by show k % 2=1;omega
    go_wp2;refine⟨⟨x++x,k / 2,o++x,rfl,by go_num,rfl,by omega,?_⟩,by simp[intOf];omega⟩;show(o++x).size+(x++x).size*(k / 2)<=s.size*n;have:=f.out;have j:=m.out;rw[g.out,Nat.mul_one] at j;rw[i,r];omega
   ·have g:Hid (k % 2=0):=by show k % 2=0;omega
    go_wp2;refine⟨⟨x++x,k / 2,o,rfl,by go_num,rfl,by omega,?_⟩,by simp[intOf];omega⟩;show o.size+(x++x).size*(k / 2)<=s.size*n;have:=f.out;have j:=m.out;rw[g.out,Nat.mul_zero] at j;rw[i];omega
