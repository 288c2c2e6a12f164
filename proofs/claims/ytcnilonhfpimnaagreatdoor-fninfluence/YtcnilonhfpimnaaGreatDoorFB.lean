import Derived.Test.YtcnilonhfpimnaaGreatDoorGW
import Derived.Lib.Builder
import Derived.Laws.ResultCell
import Derived.Laws.Rows
import Derived.Lib.IndexMore
import Derived.Lib.AtoiAll
import Derived.Laws.BitsAllLaws
set_option linter.all false
set_option maxRecDepth 100000
set_option maxHeartbeats 4000000
open Go renaming Addr.mk->T,Value.slice->Y,Value.string->U,Value.int->J,Value.agg->ZJ,Obj.cells->N,IntKind.i64->I,World->E,Value->ZB,TypeId->ZK,Ending.returned->ZI,World.heap->B,World.ownsRow->ZY,World.cell?->ZW,World.frozen?->ZX,World.setCell->ZU,Proofs.Tryz.prog->Pg,Calls->Qw
open Option renaming none->Z,some->Q
open Bool renaming false->ZA
open Array renaming size->A
open List renaming length->ZV
namespace Go.Proofs.YtcnilonhfpimnaaGreatDoor.Vp
open Tryz RowKit
variable {w j f:E}{b R g n Z8 p i:Nat}{a:O_}{e:ZK}{l:List ZB}
def wW (a b:Nat)(f:a<4611686018427387904)(hb:b<4611686018427387904):∃x:Nat,bits .xor I (a:Int) (b:Int)=x/\x<4611686018427387904:=by
 have hx:a ^^^ b<2 ^ 62:=Nat.xor_lt_two_pow (by omega) (by omega);refine⟨a ^^^ b,?_,by omega⟩;show IntKind.i64.wrap ((BitVec.ofInt 64 (a:Int) ^^^ BitVec.ofInt 64 (b:Int)).toNat:Int)=_;have e:∀x:Nat,x<4611686018427387904->(BitVec.ofInt 64 (x:Int)).toNat=x:=λx h=>by rw[BitVec.toNat_ofInt];omega
 rw[BitVec.toNat_xor,e a f,e b hb,nL];omega
def SlByte (w:E)(R:Nat)(a:O_)(n:Nat):Prop:=n=0\/∃b off,a=Q (T b off Z)/\b<R/\b<A (B w)/\∀i,i<n->∃u:Nat,u<256/\ZW w (T b (off+i) Z)=Q (J .u8 u)
def SlByte.ac (h:SlByte w R a n)(l:zt R w j):SlByte j R a n:=by
 rcases h with h|⟨b,off,e,hb,g,o⟩
 {exact .inl h};{refine .inr ⟨b,off,e,hb,lj g l.size,λi hi=>?_⟩;obtain⟨u,m,f⟩:=o i hi;exact⟨u,m,(l.O b _ g (by omega)).k f⟩}
def Rd (w:E)(R p:Nat):Prop:=∃a n j_,R<A (B w)/\n<=2000/\ZW w (T R 0 Z)=Q (Y a n j_)/\(ZW w (T R 1 Z)=Q (J I p)/\ZX w (T R 1 Z)=ZA)/\SlByte w R a n
def Rd.lt (h:Rd w R p):R<A (B w):=by obtain⟨_,_,_,h,_⟩:=h;exact h
def Rd.aa{g:E}(h:Rd w R p)(hb:Below Z8 w g)(b:A (B w)<=Z8):Rd g R p:=by obtain⟨a,n,j_,f,hn,j,⟨h1,h2⟩,i⟩:=h;refine⟨a,n,j_,lj f hb.size,hn,(hb.O (p:=(T R 0 Z)) (lj f b)).k j,⟨(hb.O (p:=(T R 1 Z)) (lj f b)).k h1,(hb.frozen (p:=(T R 1 Z)) (lj f b)).k h2⟩,?_⟩;exact i.ac (zt.l (hb.P b))
def Rd.low{l:E}(h:Rd w R p)(hb:Below Z8 w l)(f:R<Z8):Rd l R p:=by
 obtain⟨a,n,j_,o,hn,t,⟨h1,h2⟩,q⟩:=h;refine⟨a,n,j_,lj o hb.size,hn,(hb.O (p:=(T R 0 Z)) f).k t,⟨(hb.O (p:=(T R 1 Z)) f).k h1,(hb.frozen (p:=(T R 1 Z)) f).k h2⟩,?_⟩;rcases q with h|⟨b,off,e,j,m,s⟩
 {exact .inl h};{refine .inr ⟨b,off,e,j,lj m hb.size,λi hi=>?_⟩;obtain⟨u,r,g⟩:=s i hi;exact⟨u,r,(hb.O (p:=(T b _ Z)) (Nat.lt_trans j f)).k g⟩}
def zt.then{u v:E}(h:zt R u v)(k:Below (A (B u)) v w):zt R u w:=
 ⟨k.os.k h.os,k.tape.k h.tape,k.output.k h.output,nX h.size k.size,λi hi f=>(k.p i hi).k (h.p i hi f),λb t fz hb=>let ⟨cs1,h1⟩:=h.ty b t fz hb;⟨cs1,(k.p R (aj hb)).k h1⟩⟩
def Rd.step (h:Rd w R p):Rd (ZU w (T R 1 Z) (J I ((p:Int)+1))) R (p+1):=by obtain⟨a,n,j_,f,hn,b,⟨h1,h2⟩,g⟩:=h;refine⟨a,n,j_,by simpa using f,hn,(sq _ _ _ _ (by simp)).k b,⟨?_,by simpa using h2⟩,g.ac (ce (zt.refl R w) 1 _)⟩;rw[BO _ _ _ (by rw[h1];rfl)];rfl
def Eb (R p:Nat)(m:Int)(a:O_)(j_:Nat)(w:E)(h0:ZW w (T R 0 Z)=Q (Y a 0 j_))(h1:ZW w (T R 1 Z)=Q (J I p))(h2:ZX w (T R 1 Z)=ZA)(hp:(p:Int)<=100000)(hm:1<=m):Qw Pg 19 #[.pointer (Q (T R 0 Z)),J I m] w λe b=>e=ZI (J I 0)/\b=ZU w (T R 1 Z) (J I ((p:Int)+1)):=by go_enter func19,ntmps19;go_wp2;go_ret;exact⟨rfl,rfl⟩
def GT (R p:Nat)(m:Int)(b off n j_ u:Nat)(w:E)(h0:ZW w (T R 0 Z)=Q (Y (Q (T b off Z)) n j_))(h1:ZW w (T R 1 Z)=Q (J I p))(h2:ZX w (T R 1 Z)=ZA)(hp:(p:Int)<=100000)(hm:1<=m)(hm2:m<=1000000)
  (hlt:p<n) (hb:b<R) (hu:u<256) (h:ZW w (T b (off+p) Z)=Q (J .u8 u)) :
  Qw Pg 19 #[.pointer (Q (T R 0 Z)),J I m] w λe i=>∃z:Int,e=ZI (J I z)/\0<=z/\z<m/\i=ZU w (T R 1 Z) (J I ((p:Int)+1)):=by
 have hc':ZW (ZU w (T R 1 Z) (J I ((p:Int)+1))) (T b (off+p) Z)=Q (J .u8 u):=(K_ _ _ _ _ (by simp;omega)).k h;obtain⟨z,hz,f,g⟩:∃z:Int,(u:Int).tmod m=z/\0<=z/\z<m:=⟨_,rfl,Int.tmod_nonneg _ (by omega),Int.tmod_lt_of_pos _ (by omega)⟩
 have hm0:¬ m=0:=by omega
 have hq:(decide (m<1) || ((n:Int) == 0))=ZA:=by simp;omega
 clear h;go_enter func19,ntmps19;go_wp2;go_ret;exact⟨z,rfl,f,g,rfl⟩
def Ec (R p:Nat)(m:Int)(b off n j_ u v:Nat)(w:E)(ZT:ZW w (T R 0 Z)=Q (Y (Q (T b off Z)) n j_))(h1:ZW w (T R 1 Z)=Q (J I p))(h2:ZX w (T R 1 Z)=ZA)(hp:(p:Int)<=100000)(hm:1<=m)(hm2:m<=1000000)
  (hlt:¬ p<n) (hn1:1<=n) (hn:n<=2000) (hb:b<R) (hu:u<256) (hv:v<256) (o:w.cell? ⟨b,off+p % n,Z⟩=Q (J .u8 u)) (l:w.cell? ⟨b,off+(p*7+3) % n,Z⟩=Q (J .u8 v)) :
  Qw Pg 19 #[.pointer (Q (T R 0 Z)),J I m] w λe G=>∃z:Int,e=ZI (J I z)/\0<=z/\z<m/\Below (A (B (ZU w (T R 1 Z) (J I ((p:Int)+1))))) (ZU w (T R 1 Z) (J I ((p:Int)+1))) G:=by
 obtain⟨i,hi⟩:∃i,i=p % n:=⟨_,rfl⟩
 obtain⟨j,g⟩:∃j,j=(p*7+3) % n:=⟨_,rfl⟩
 obtain⟨d,f⟩:∃d,d=p / n:=⟨_,rfl⟩
 have hi2:i<n:=by rw[hi];exact UJ _ (by omega)
 have hj2:j<n:=by rw[g];exact UJ _ (by omega)
 have hd2:d<=p:=by rw[f];exact Nat.div_le_self _ _
 have e1:(p:Int).tmod n=i:=by rw[hi];rfl
 have e2:((p:Int)*7+3).tmod n=j:=by rw[g];rfl
 have e3:(p:Int) / n=d:=by rw[f];rfl
 rw[<-hi] at o;rw[<-g] at l;have t:ZW (ZU w (T R 1 Z) (J I ((p:Int)+1))) (T b (off+i) Z)=Q (J .u8 u):=(K_ _ _ _ _ (by simp;omega)).k o;have Z8:ZW (ZU w (T R 1 Z) (J I ((p:Int)+1))) (T b (off+j) Z)=Q (J .u8 v):=(K_ _ _ _ _ (by simp;omega)).k l;have ZS:ZW (ZU w (T R 1 Z) (J I ((p:Int)+1))) (T R 0 Z)=Q (Y (Q (T b off Z)) n j_):=(sq _ _ _ _ (by simp)).k ZT;obtain⟨x,r,hx2⟩:∃x:Nat,(u:Int)*131+v*1117+p*29+d*53=x/\x<1000000000000:=⟨u*131+v*1117+p*29+d*53,by omega,by omega⟩
 obtain⟨y,h,hy2⟩:=wW x (x / 64) (by omega) (by omega);rw[show((x / 64:Nat):Int)=(x:Int) / 64 from rfl] at h;obtain⟨z,hz,s,ZZ⟩:∃z:Int,(y:Int).tmod m=z/\0<=z/\z<m:=⟨_,rfl,Int.tmod_nonneg _ (by omega),Int.tmod_lt_of_pos _ (by omega)⟩
 have hm0:¬ m=0:=by omega
 have hq:(decide (m<1) || ((n:Int) == 0))=ZA:=by simp;omega
 have hn0:¬ (n:Int)=0:=by omega
 have hge:(n:Int)<=p:=by omega
 have D:=ae r;have C:=ae h;have H:=ae hz;clear hi g o l r h hz f;go_enter func19,ntmps19;go_wp2_with fail;go_quiet (fail);have q:=ae (AD (a8 (A (B (ZU w (T R 1 Z) (J I ((p:Int)+1))))) (ZU w (T R 1 Z) (J I ((p:Int)+1)))) nq);rw[D.i];clear t Z8 ZS;generalize (ZU w (T R 1 Z) (J I ((p:Int)+1))).drewN nq=W at q ⊢;have h:=C.i;have hz:=H.i;go_wp2;go_ret;exact⟨z,rfl,s,ZZ,q⟩
def ay (R p:Nat)(m:Int)(w:E)(hR:Rd w R p)(Z8:(p:Int)<=100000)(ZZ:1<=m)(t:m<=1000000):Qw Pg 19 #[.pointer (Q (T R 0 Z)),J I m] w λe q=>∃z:Int,e=ZI (J I z)/\0<=z/\z<m/\Rd q R (p+1)/\zt R w q:=by
 have hR':=hR;have hst:=hR.step;have o:zt R w (ZU w (T R 1 Z) (J I ((p:Int)+1))):=ce (zt.refl R w) 1 _;obtain⟨a,n,j_,hl,hn,x,⟨h1,h2⟩,ZT⟩:=hR;by_cases hz:n=0;{subst hz;exact(Eb R p m a j_ w x h1 h2 Z8 ZZ).P λe q ⟨g,i⟩=>⟨0,g,by omega,by omega,by rw[i];exact hst,by rw[i];exact o⟩}
 ·rcases ZT with h|⟨b,off,rfl,hb,hbl,C⟩
  {exact absurd h hz};{by_cases j:p<n;{obtain⟨u,y,f⟩:=C p j;exact(GT R p m b off n j_ u w x h1 h2 Z8 ZZ t j hb y f).P λe q ⟨z,g,l,r,i⟩=>⟨z,g,l,r,by rw[i];exact hst,by rw[i];exact o⟩};{obtain⟨u,y,f⟩:=C (p % n) (UJ _ (by omega));obtain⟨v,G,s⟩:=C ((p*7+3) % n) (UJ _ (by omega));exact(Ec R p m b off n j_ u v w x h1 h2 Z8 ZZ t j (by omega) hn hb y G f s).P λe q ⟨z,g,l,r,D⟩=>⟨z,g,l,r,hst.aa D ly,o.k (zt.l D)⟩}}
def ByteSl (w:E)(a:O_)(n:Nat):Prop:=n=0\/∃b off,a=Q (T b off Z)/\b<A (B w)/\∀i,i<n->∃u:Nat,u<256/\ZW w (T b (off+i) Z)=Q (J .u8 u)
def ByteSl.aa (h:ByteSl w a n)(hb:Below Z8 w j)(l:A (B w)<=Z8):ByteSl j a n:=by
 rcases h with h|⟨b,off,e,g,o⟩
 {exact .inl h};{refine .inr ⟨b,off,e,lj g hb.size,λi hi=>?_⟩;obtain⟨u,m,f⟩:=o i hi;exact⟨u,m,(hb.O (p:=(T b _ Z)) (lj g l)).k f⟩}
def uu{k j_:Nat}(h:ByteSl w a n)(hk:k<=n)(j:k<=2000)(t:ZK):Rd (w.alloc (N #[Y a k j_,J I 0] t)) (A (B w)) 0:=by
 refine⟨a,k,j_,by simp,j,by simp,⟨by simp,by simp⟩,?_⟩;rcases h with h|⟨b,off,e,g,m⟩
 {exact .inl (by omega)};{refine .inr ⟨b,off,e,g,by simp;omega,λi hi=>?_⟩;obtain⟨u,l,f⟩:=m i (by omega);exact⟨u,l,(((BS w).alloc ly _).O (p:=(T b _ Z)) g).k f⟩}
def ze (b off n j_:Nat)(w:E)(hn:(n:Int)<=1048576)(hc:n<=j_)(f:ByteSl w (Q (T b off Z)) n):Qw Pg 17 #[Y (Q (T b off Z)) n j_] w λe g=>∃R,e=ZI (.pointer (Q (T R 0 Z)))/\(A (B w))<=R/\Rd g R 0/\Below (A (B w)) w g:=by
 have i:=ae f;clear f;by_cases h:(2000:Int)<n;all_goals
  go_enter func17,ntmps17;go_wp2;go_ret;first
   |exact⟨_,rfl,p7 _,uu i (k:=2000) (by omega) (by omega) _,br.alloc ly _⟩
   |exact⟨_,rfl,p7 _,uu i (k:=n) (by omega) (by omega) _,br.alloc ly _⟩
def zi (a:O_)(j_:Nat)(w:E):Qw Pg 17 #[Y a 0 j_] w λe b=>∃R,e=ZI (.pointer (Q (T R 0 Z)))/\(A (B w))<=R/\Rd b R 0/\Below (A (B w)) w b:=by have f:Hid (ByteSl w a 0):=.inl rfl;go_enter func17,ntmps17;go_wp2;go_ret;exact⟨_,rfl,p7 _,uu f (k:=0) (by omega) (by omega) _,br.alloc ly _⟩
def lR (a:O_)(n j_:Nat)(w:E)(hn:(n:Int)<=1048576)(i:n<=j_)(g:ByteSl w a n):Qw Pg 17 #[Y a n j_] w λe h=>∃R,e=ZI (.pointer (Q (T R 0 Z)))/\(A (B w))<=R/\Rd h R 0/\Below (A (B w)) w h:=by
 have f:=g;rcases g with rfl|⟨b,off,rfl,_,_⟩
 {exact zi a j_ w};{exact ze b off n j_ w hn i f}
def eP (s:F_)(n:Nat)(w:E)(h:s.size*n<=4000)(hn:(n:Int)<=4000):Qw Pg 35 #[U s,J I n] w λe u=>∃t:F_,e=ZI (U t)/\t.size<=s.size*n/\u=w:=by
 have H:=ae h;clear h;go_enter func35,ntmps35;go_wp2;go_loop [0,1,5] (λsv l y=>∃(x:F_) (k:Nat) (o:F_),sv=U x/\l=J I k/\y=U o/\(k:Int)<=4000/\Hid (o.size+x.size*k<=s.size*n)) (λ_ l _=>(intOf l).toNat);case atStart=>exact⟨s,n,⟨#[]⟩,rfl,rfl,rfl,hn,by show 0+s.size*n<=_;omega⟩
 case round =>
  obtain⟨x,k,o,rfl,rfl,rfl,hk,b⟩:=hrel;by_cases hz:(k:Int)=0
  ·obtain rfl:k=0:=by omega
   have p:o.size<=s.size*n:=by have:=b.i;omega
   have g:=ae p;clear p;go_wp2;go_ret;exact⟨o,rfl,g,rfl⟩
  ·have hpos:0<(k:Int):=by omega
   have q:x.size<=x.size*k:=Nat.le_mul_of_pos_right _ (by omega);have hx2:(x.size:Int)<=4000:=by have:=b.i;have:=H.i;omega
   have ho2:(o.size:Int)<=4000:=by have:=b.i;have:=H.i;omega
   have q5:(k:Int).tmod 2=(k:Int) % 2:=RV (by omega);have i:(x++x).size=x.size+x.size:=by simp
   have r:(o++x).size=o.size+x.size:=by simp
   have f:(x.size+x.size)*(k / 2)+x.size*(k % 2)=x.size*k:=by rw[show x.size*k=x.size*(2*(k / 2)+k % 2) by rw[Nat.div_add_mod]];rw[Nat.mul_add,<-Nat.mul_assoc,Nat.mul_two]
   have m:=ae f;clear f q;by_cases hodd:(k:Int) % 2=1
   ·have g:Hid (k % 2=1):=by show k % 2=1;omega
    go_wp2;refine⟨⟨x++x,k / 2,o++x,rfl,by go_num,rfl,by omega,?_⟩,by simp[intOf];omega⟩;show(o++x).size+(x++x).size*(k / 2)<=s.size*n;have:=b.i;have j:=m.i;rw[g.i,Nat.mul_one] at j;rw[i,r];omega
   ·have g:Hid (k % 2=0):=by show k % 2=0;omega
    go_wp2;refine⟨⟨x++x,k / 2,o,rfl,by go_num,rfl,by omega,?_⟩,by simp[intOf];omega⟩;show o.size+(x++x).size*(k / 2)<=s.size*n;have:=b.i;have j:=m.i;rw[g.i,Nat.mul_zero] at j;rw[i];omega
def rA (b:List UInt8):List ZB:=b.map λc=>J .u8 (c.toNat:Int)
def IE:(Pg.info? 5).map (λi=>(i.zero,i.size,i.bytes))=Q (Q (J .u8 0),1,1):=by kernel_rfl
def gE{size:Nat}{v:ZB}(h:ZY w b e size v n l)(f:zt R w j)(hR:R<b):ZY j b e size v n l:=by
 refine h.kept (row:=Q R) ⟨f.os,f.tape,f.output,f.size,λk m i=>f.p k m (by simpa using i)⟩ ?_;rcases h.2 with⟨rfl,_⟩|⟨g,j_,cur,rfl,hg,_⟩
 {exact .inl rfl};{right;simp[Value.ownBlock];omega}
def zj{z:Int}(b:0<=z)(h1:z<159):∃c:UInt8,97+z=(c.toNat:Int):=by obtain⟨k,rfl⟩:=p9 b;refine⟨UInt8.ofNat (97+k),?_⟩;rw[UInt8.toNat_ofNat'];omega
def AX (b:List UInt8)(c:UInt8):rA (b++[c])=rA b++[J .u8 (c.toNat:Int)]:=by simp[rA]
def Ed (b:List UInt8)(w:E)(g j_ k:Nat)(i:ZV b=k)(h:∀j (f:j<ZV b),w.cell? (((T g 0 Z):Addr).add j)=Q (J .u8 (b[j].toNat:Int))):(convert 22 9 (Y (Q (T g 0 Z)) k j_)).run Pg w=.ok (U ⟨b.toArray⟩) w:=by subst i;refine VU _ 22 9 5 (T g 0 Z) j_ b Q2 PO ES ?_;intro j f;exact h j f
def fT (R p:Nat)(w:E)(hR:Rd w R p)(hp:(p:Int)<=50000):Qw Pg 36 #[.pointer (Q (T R 0 Z))] w λe ZL=>∃t:F_,e=ZI (U t)/\t.size<=8/\∃q:Nat,q<=p+8/\Rd ZL R q/\zt R w ZL:=by
 have HR:=ae hR;clear hR;go_enter func36,ntmps36;go_wp2_with fail;refine(ay R p 12 _ HR (by omega) (by omega) (by omega)).P ?_;rintro e n⟨z,rfl,hz0,hz1,D,Z8⟩;have x:=ae D;have K:=ae Z8;clear D Z8;by_cases h3:z=3
 ·subst h3;have O:=ae ((BS n).alloc ly (N #[U ⟨#[97,32,98]⟩,U ⟨#[97,9,98,32,99]⟩] 9));have P:=ae (x.aa O ly);have k0:(n.alloc (N #[U ⟨#[97,32,98]⟩,U ⟨#[97,9,98,32,99]⟩] 9)).cell? (T (A (B n)) 0 Z)=Q (U ⟨#[97,32,98]⟩):=by simp
  have X:(n.alloc (N #[U ⟨#[97,32,98]⟩,U ⟨#[97,9,98,32,99]⟩] 9)).cell? (T (A (B n)) 1 Z)=Q (U ⟨#[97,9,98,32,99]⟩):=by simp
  go_wp2_with fail;refine(ay R (p+1) 2 _ P (by omega) (by omega) (by omega)).P ?_;rintro e f⟨y,rfl,G,aq,l,b⟩;have hl:=x.lt;have j0:=(b.O (A (B n)) 0 (by simp) (by omega)).k k0;have j1:=(b.O (A (B n)) 1 (by simp) (by omega)).k X;have L:=ae l;have ZZ:=ae ((K.k (zt.l O)).k b);clear l b k0 X O;rcases(show y=0\/y=1 by omega) with rfl|rfl;all_goals
   go_wp2;go_ret;exact⟨_,rfl,by decide,p+1+1,by omega,L,ZZ⟩
 by_cases h6:z<6
 ·rcases(show z=0\/z=1\/z=2\/z=4\/z=5 by omega) with rfl|rfl|rfl|rfl|rfl;all_goals
   go_wp2;go_ret;exact⟨_,rfl,by decide,p+1,by omega,x,K⟩
 have n0:¬ z=0:=by omega
 have n1:¬ z=1:=by omega
 have n2:¬ z=2:=by omega
 have n4:¬ z=4:=by omega
 have n5:¬ z=5:=by omega
 go_wp2_with fail;refine(ay R (p+1) 5 _ x (by omega) (by omega) (by omega)).P ?_;rintro e f⟨y,rfl,G,aq,l,b⟩;have P:=ae l;have O2:=ae (K.k b);have ZS:=l.lt;clear l b;have A2:=ae ((BS f).alloc ly (N #[] 5));have W2:=ae (OU f #[] 0 (e:=5) (size:=1) (p7 (A (B f))) (by unfold maxLen;omega) rfl);obtain⟨m,rfl⟩:=p9 G;obtain⟨fd,hi,ex,la,bt⟩:=NO IE;go_wp2;go_loopw [4,5] (λv i wr=>∃(k:Nat) (h:List UInt8),k<=m+1/\i=J I k/\Hid (ZV h=k)/\Hid (wr.ownsRow (A (B f)) 5 1 v k (rA h))/\Hid (Rd wr R (p+2+k))/\Hid (zt R f wr)) (λ_ i _=>m+1 - (intOf i).toNat);case atStart=>exact⟨0,[],by omega,rfl,rfl,W2,P.aa A2 ly,zt.l A2⟩
 case round =>
  obtain⟨k,h,hk,rfl,ZR,S,RR,M⟩:=hrel;have hsz:A (B f)<=A (B wr):=M.size;by_cases hlt:(k:Int)<=m;{go_wp2_with fail;refine(ay R (p+2+k) 4 _ RR (by omega) (by omega) (by omega)).P ?_;rintro e ZN⟨c,rfl,ld,hc1,ZT,s⟩;obtain⟨C,hC⟩:=zj ld (by omega);have L:=ae ZT;have ZZ:=ae (M.k s);have H:=ae (gE S s ZS);have ZQ:A (B f)<=A (B ZN):=ZZ.size;clear ZT s;go_wp2_with (at_builtin;refine DN _ rfl (.tmp 33) (.tmp 38) 22 rfl (A (B f)) 5 fd (J .u8 0) 1 1 Q2 hi ex la bt rfl (by decide) _ k (rA h) (by simp[Act.eval]) (H.alloc _) (T (A (B ZN)) 0 Z) 1 1 [J .u8 (C.toNat:Int)] (by simp[Act.eval]) rfl (ep _ _ _) (by simp[Value.oneCell']) (by unfold maxLen;omega) (by omega) (by simp;omega) ?_;intro v' w4 r o ZO;have O4:=ae r;have V:=ae (bg ((a8 (A (B f)) ZN).alloc ZQ (N #[J .u8 (C.toNat:Int)] 5)) o (by simp;omega) (λj e=>(H.lt j e).1));clear r o ZO);refine⟨⟨k+1,h++[C],by omega,by go_num,by show(h++[C]).length=k+1;simp[ZR.i],?_,?_,ZZ.then V.i⟩,by simp[intOf];omega⟩;{show World.ownsRow _ _ _ _ _ _ _;rw[AX];exact O4};{exact L.low V ZS}}
  ·have O5:=ae (O2.k M);obtain⟨g,j_,rfl⟩:=iA S (by omega);have W:=Ed h wr g j_ k ZR.i (λj hj=>S.cells (g:=g) rfl j _ (by simp[rA,hj]));have u:(⟨h.toArray⟩:F_).size<=8:=by show h.toArray.size<=8;have:=ZR.i;simp;omega
   have ZM:=ae u;generalize (⟨h.toArray⟩:F_)=ZP at W ZM;clear u;go_wp2;go_ret;exact⟨ZP,rfl,ZM,p+2+k,by omega,RR,O5⟩
def CI (w:E)(b:Nat)(x y z:ZB):Prop:=w.heap[b]?=Q (N #[x,y,z] 102 (0,0))
def CI.new (w:E)(x y z:ZB):CI (w.alloc (N #[x,y,z] 102)) (A (B w)) x y z:=gM w _
def GU:(Pg.info? 102).map (·.size)=Q 3:=by kernel_rfl
abbrev I3:=Int × List UInt8 × Int
def i3V (i:I3):List ZB:=[J I i.1,U ⟨i.2.1.toArray⟩,J I i.2.2]
def i3L (L:List I3):List ZB:=L.flatMap i3V
def jA:∀L:List I3,(i3L L).length=ZV L*3
 |[]=>rfl
 |i::L=>by have:=jA L;simp only[i3L,NZ,cM,vF] at this ⊢;rw[this];simp[i3V];omega
def Ee{f j:Nat}{v:ZB}(h:ZY w b e f v n l)(hR:R<b)(u:ZB):(ZU w (T R j Z) u).ownsRow b e f v n l:=by
 refine⟨h.1,?_⟩;rcases h.2 with hn|⟨g,j_,i,m,o,p,r⟩
 {exact .inl hn}
 ·refine .inr ⟨g,j_,i,m,o,?_,r⟩;have:R≠g:=by omega
  simp[World.setCell,NQ,this,p]
def PB (w:E)(b:Nat)(v:ZB):Prop:=w.heap[b]?=Q (N #[v] 37 (0,0))
def PB.lt{v:ZB}(h:PB w b v):b<A (B w):=(CV.1 h).1
def PB.c0{v:ZB}(h:PB w b v):ZW w (T b 0 Z)=Q v:=by rw[Lib.cell_of_heap h];rfl
def PB.fz{v:ZB}(h:PB w b v)(j:Nat):ZX w (T b j Z)=ZA:=YD h j
def PB.aa{v:ZB}(h:PB w b v)(hb:Below Z8 w f)(g:b<Z8):PB f b v:=(hb.p b g).k h
def PB.set{v:ZB}(h:PB w b v)(f:ZB):PB (ZU w (T b 0 Z) f) b f:=by unfold PB at *;simp[World.setCell,NQ,h]
def wX:(Pg.info? 37).map (·.size)=Q 1:=by kernel_rfl
def pi{fn:Func}{p:Tmp}(h:fn.results=#[.cell p 102])(tmps:Array ZB)(w:E)(g:Nat)(x y z:ZB)(f:tmps.getD p undef=.pointer (Q (T g 0 Z)))(b:CI w g x y z):(results fn tmps).run Pg w=.ok (ZJ #[x,y,z]) w:=
 results_cell_row h tmps w g 102 #[x,y,z] (0,0) _ f b underlying102 rfl GU
def bC (s:F_)(w:E):Qw Pg 57 #[U s] w λe b=>e=ZI (ZJ #[J I 1,U s,J I 0])/\Below (A (B w)) w b:=by
 go_enter func57,ntmps57;go_wp2;try simp only[Exit.inBlock,Exit.then]
 refine bp (pi rfl _ _ (A (B w)) _ _ _ rfl (CI.new w _ _ _)) rfl ?_;exact⟨rfl,br.alloc ly _⟩
def bq (op:Int)(w:E):Qw Pg 58 #[J I op] w λe b=>e=ZI (ZJ #[J I op,U ⟨#[]⟩,J I 0])/\Below (A (B w)) w b:=by
 go_enter func58,ntmps58;go_wp2;try simp only[Exit.inBlock,Exit.then]
 refine bp (pi rfl _ _ (A (B w)) _ _ _ rfl (CI.new w _ _ _)) rfl ?_;exact⟨rfl,br.alloc ly _⟩
def bS (op n:Int)(w:E):Qw Pg 82 #[J I op,J I n] w λe b=>e=ZI (ZJ #[J I op,U ⟨#[]⟩,J I n])/\Below (A (B w)) w b:=by
 go_enter func82,ntmps82;go_wp2;try simp only[Exit.inBlock,Exit.then]
 refine bp (pi rfl _ _ (A (B w)) _ _ _ rfl (CI.new w _ _ _)) rfl ?_;exact⟨rfl,br.alloc ly _⟩
def oL (n:Int)(w:E):Qw Pg 123 #[J I n] w λe b=>e=ZI (J I (if 200<n then 200 else n))/\b=w:=by
 by_cases h:200<n;{rw[eT h];go_enter func123,ntmps123;go_wp2;go_ret;exact⟨rfl,rfl⟩};{rw[eI h];go_enter func123,ntmps123;go_wp2;go_ret;exact⟨rfl,rfl⟩}
def dH (R p:Nat)(w:E)(hR:Rd w R p)(hp:(p:Int)<=90000):Qw Pg 32 #[.pointer (Q (T R 0 Z))] w λe j=>∃t:F_,e=ZI (U t)/\t.size<=30/\Rd j R (p+1)/\zt R w j:=by
 have o:=ae hR;clear hR;go_enter func32,ntmps32;go_wp2_with fail;refine(ay R p 16 _ o (by omega) (by omega) (by omega)).P ?_;rintro e w1⟨z,rfl,hz0,hz1,f,g⟩;have h:=ae f;have i:=ae g;clear f g;by_cases h6:z<6
 ·rcases(show z=0\/z=1\/z=2\/z=3\/z=4\/z=5 by omega) with rfl|rfl|rfl|rfl|rfl|rfl;all_goals
   go_wp2;go_ret;exact⟨_,rfl,by decide,h,i⟩
 ·by_cases h14:z<14
  ·obtain⟨m,rfl⟩:∃m:Nat,z=(m:Int)+6:=⟨(z - 6).toNat,by omega⟩
   have hm:m<=7:=by omega
   have DC:=ae (λV=>sA m (by omega) V);have hd:=GQ m (by omega);go_wp2_with fail;refine(DC _).P ?_;rintro e w2⟨rfl,b⟩;have l:=ae (h.aa b ly);have n:=ae (i.k (zt.l b));clear b;go_wp2;go_ret;exact⟨_,rfl,by rw[PU];show 1+(Lib.decDigits m).length<=30;omega,l,n⟩
  {go_wp2;go_ret;exact⟨_,rfl,by decide,h,i⟩}
def pj:∃i,Pg.info? 102=Q i/\i.zero=Q (ZJ #[J I 0,U ⟨#[]⟩,J I 0])/\i.size=3/\i.bytes=32:=by obtain⟨i,hi,hz⟩:=RF.1 ou;simp only[LK] at hz;exact⟨i,hi,hz⟩
def IR (w:E)(b g c:Nat)(L:List I3):Prop:=ZY w b 102 3 (Y (Q (T g 0 Z)) (ZV L) c) (ZV L) (i3L L)
def IR.aa{c:Nat}{L:List I3}(h:IR w b g c L)(hb:Below Z8 w f)(i:A (B w)<=Z8):IR f b g c L:=J_ h hb i
def IR.lt{c:Nat}{L:List I3}(h:IR w b g c L):b<=g/\g<A (B w):=World.ownsRow.lt h g rfl
def IR.ac{c:Nat}{L:List I3}(h:IR w b g c L)(i:zt R w f)(hR:R<b):IR f b g c L:=gE h i hR
def IR.lit (w:E):IR (w.alloc (N #[] 102)) (A (B w)) (A (B w)) 0 []:=
 ⟨by simp[i3L],.inr ⟨A (B w),0,#[],rfl,p7 _,gM w _,p7 _,by unfold maxLen;omega,by simp,by simp[i3L]⟩⟩
def rB (L M:List I3):i3L (L++M)=i3L L++i3L M:=by simp[i3L]
def xQ (L:List I3):∀u∈i3L L,u.oneCell'=true:=by intro u f;simp only[i3L,QP,i3V] at f;obtain⟨x,_,b⟩:=f;simp at b;rcases b with rfl|rfl|rfl<;>simp[Value.oneCell']
def gK (b off j:Nat):((T b off Z):Addr).add j=(T b (off+j) Z):=by unfold Addr.add;split<;>simp_all
def eQ (w:E)(b:Array ZB)(t:ZK):∀j u,b.toList[j]?=Q u->(w.alloc (N b t)).cell? (((T (A (B w)) 0 Z):Addr).add j)=Q u:=by intro j u f;rw[gK,IT];exact kH w b t (A (B w)) j u rfl (by simpa using f)
def IR.news{c:Nat}{L:List I3}(h:IR w b g c L):∀j u,(i3L L)[j]?=Q u->w.cell? (((T g 0 Z):Addr).add j)=Q u:=λj u f=>World.ownsRow.cells h (g:=g) rfl j u f
def gL{q:Array Oper}{rest:List Oper}{o:Oper}{a:Act}{ZO:Exit->Act->E->Prop}(Z8:o.guard=Z)(s x:Operand)
  (ZS:o.op=.call { callee:=.builtin .append,args:=#[s,x],argTypes:=#[35,35] }) (b g c:Nat) (L:List I3) (ZQ:a.eval s=Y (Q (T g 0 Z)) (ZV L) c) (y:IR w b g c L)
  (t:Addr) (m d:Nat) (M:List I3) (ZT:a.eval x=Y (Q t) m d) (ZR:m=ZV M) (ZZ:M≠[]) (p:∀j u,(i3L M)[j]?=Q u->w.cell? (t.add j)=Q u) (hlen:ZV L+ZV M<=100000) (hb:b<=A (B w))
  (h:∀f i l,IR l b f i (L++M)->w.grownBy l (Q g)->wpList Pg q ZO rest (a.put o.dst (Y (Q (T f 0 Z)) (L++M).length i)) l):wpList Pg q ZO (o::rest) a w:=by
 obtain⟨H,hi,D,C,z⟩:=pj;subst ZR;refine DN _ Z8 s x 35 ZS b 102 H (ZJ #[J I 0,U ⟨#[]⟩,J I 0]) 3 32 QD hi D C z rfl (by decide) _ (ZV L) (i3L L) ZQ y t (ZV M) d (i3L M) ZT (jA M) p (xQ M) (by unfold maxLen;omega) (by omega) hb ?_;intro K l n G _;have hp:0<ZV M:=NV.2 ZZ;have r:∃f i,K=Y (Q (T f 0 Z)) (ZV L+ZV M) i:=by
  rcases n.2 with⟨_,h0⟩|⟨f,j_,cur,r,_⟩
  {omega};{exact⟨f,j_,r⟩}
 obtain⟨f,i,rfl⟩:=r;have e:(L++M).length=ZV L+ZV M:=cM;rw[<-e] at n ⊢;rw[<-rB] at n;exact h f i l n G
def DI (w:E)(R q n:Nat)(e:Ending)(b:E):Prop:=∃(L:List I3) (g c:Nat),e=ZI (Y (Q (T g 0 Z)) (ZV L) c)/\IR b (A (B w)) g c L/\L≠[]/\(ZV L)<=n/\(∀i∈L,i.2.1.length<=5000)/\∃f:Nat,f<=q/\Rd b R f/\zt R w b
def uv:∀(L:List I3) (i:Nat) (n:Int) (x:I3),L[i]?=Q x->i3L (L.set i (x.1,x.2.1,n))=(i3L L).set (i*3+2) (J I n)
 |[],i,n,x,h=>by simp at h
 |y::L,0,n,x,h=>by simp at h;subst h;rfl
 |y::L,i+1,n,x,h=>by simp at h;have f:=uv L i n x h;have b:(i3V y).length=3:=rfl;rw[VA];show i3V y++i3L (L.set i (x.1,x.2.1,n))=(i3V y++i3L L).set ((i+1)*3+2) (J I n);rw[f,T9 _ _ (by rw[b];omega),b,show(i+1)*3+2 - 3=i*3+2 by omega]
def IR.setN{c:Nat}{L:List I3}(h:IR w b g c L)(hi:i<ZV L)(n:Int):∃j,ZV j=ZV L/\((∀x∈L,x.2.1.length<=5000)->∀x∈j,x.2.1.length<=5000)/\IR (ZU w (T g (i*3+2) Z) (J I n)) b g c j:=by
 have q:L[i]?=Q L[i]:=gq hi;refine⟨L.set i (L[i].1,L[i].2.1,n),NI,λm x s=>?_,?_⟩;{rcases ON s with h1|h1;{exact m x h1};{rw[h1];exact m L[i] (gz hi)}}
 ·unfold IR;rw[NI,uv L i n L[i] q];refine⟨by rw[NI];exact h.1,?_⟩;rcases h.2 with⟨f,h0⟩|⟨g',j_,l,f,hb,r,h1,h2,o,p⟩
  {simp at f};{simp only[IN,L8,RJ] at f;obtain⟨⟨rfl,-⟩,-,rfl⟩:=f;refine .inr ⟨g,c,l.setIfInBounds (i*3+2) (J I n),rfl,hb,?_,h1,h2,by simpa using o,?_⟩;{simp[World.setCell,NQ,r]};{rw[RY,YV,p]}}
def IR.cellN{f c:Nat}{L:List I3}(h:IR w f g c L)(hi:i<ZV L):(∃v,ZW w (T g (i*3+2) Z)=Q (J I v))/\ZX w (T g (i*3+2) Z)=ZA:=by
 have o:L[i]?=Q L[i]:=gq hi;have l:∀(L:List I3) (i:Nat) (x:I3),L[i]?=Q x->(i3L L)[i*3+2]?=Q (J I x.2.2):=by
  intro L;induction L with
  |nil=>intro i x h;simp at h
  |cons y L n =>
   intro i x h;cases i with
   |zero=>simp at h;subst h;rfl
   |succ i =>simp at h;have j:(i3V y).length=3:=rfl;show(i3V y++i3L L)[(i+1)*3+2]?=_;rw[KK (by rw[j];omega),j,show(i+1)*3+2 - 3=i*3+2 by omega];exact n i x h
 have m:=World.ownsRow.cells h (g:=g) rfl _ _ (l L i L[i] o);rw[gK,IT] at m;refine⟨⟨_,m⟩,?_⟩;rcases h.2 with⟨b,_⟩|⟨g',j_,cur,b,_,p,_⟩
 {simp at b};{simp only[IN,L8,RJ] at b;obtain⟨⟨rfl,-⟩,-,rfl⟩:=b;exact YD p _}
