import Derived.Test.YthkgkfehliinfaaGreatDoorGW
import Derived.Lib.Builder
import Derived.Laws.ResultCell
import Derived.Laws.Rows
import Derived.Lib.IndexMore
import Derived.Lib.AtoiAll
import Derived.Laws.BitsAllLaws
set_option linter.all false
set_option maxRecDepth 100000
set_option maxHeartbeats 4000000
open Go renaming Addr.mk->Q,Value.slice->Y,Value.string->U,Value.int->J,Value.agg->ZJ,Obj.cells->N,IntKind.i64->I,World->E,Value->ZB,TypeId->ZK,Ending.returned->ZI,World.heap->B,World.ownsRow->ZY,World.cell?->ZW,World.frozen?->ZX,World.setCell->ZU,Proofs.Tryz.prog->Pg
open Option renaming none->Z,some->T
open Bool renaming false->ZA
open Array renaming size->A
open List renaming length->ZV
namespace Go.Proofs.YthkgkfehliinfaaGreatDoor.Vp
open Tryz RowKit
variable {w l f:E}{b R g n Z8 p i:Nat}{a:O_}{e:ZK}
def wW (a b:Nat)(f:a<4611686018427387904)(hb:b<4611686018427387904):∃x:Nat,bits .xor I (a:Int) (b:Int)=x/\x<4611686018427387904:=by
 have hx:a ^^^ b<2 ^ 62:=Nat.xor_lt_two_pow (by omega) (by omega);refine⟨a ^^^ b,?_,by omega⟩;show IntKind.i64.wrap ((BitVec.ofInt 64 (a:Int) ^^^ BitVec.ofInt 64 (b:Int)).toNat:Int)=_;have e:∀x:Nat,x<4611686018427387904->(BitVec.ofInt 64 (x:Int)).toNat=x:=λx h=>by rw[BitVec.toNat_ofInt];omega
 rw[BitVec.toNat_xor,e a f,e b hb,nL];omega
def SlByte (w:E)(R:Nat)(a:O_)(n:Nat):Prop:=n=0\/∃b off,a=T (Q b off Z)/\b<R/\b<A (B w)/\∀i,i<n->∃u:Nat,u<256/\ZW w (Q b (off+i) Z)=T (J .u8 u)
def SlByte.ac (h:SlByte w R a n)(j:zd R w l):SlByte l R a n:=by
 rcases h with h|⟨b,off,e,hb,g,o⟩
 {exact .inl h};{refine .inr ⟨b,off,e,hb,lj g j.size,λi hi=>?_⟩;obtain⟨u,m,f⟩:=o i hi;exact⟨u,m,(j.O b _ g (by omega)).k f⟩}
def Rd (w:E)(R p:Nat):Prop:=∃a n j_,R<A (B w)/\n<=2000/\ZW w (Q R 0 Z)=T (Y a n j_)/\(ZW w (Q R 1 Z)=T (J I p)/\ZX w (Q R 1 Z)=ZA)/\SlByte w R a n
def Rd.lt (h:Rd w R p):R<A (B w):=by obtain⟨_,_,_,h,_⟩:=h;exact h
def Rd.aa{g:E}(h:Rd w R p)(hb:Below Z8 w g)(f:A (B w)<=Z8):Rd g R p:=by obtain⟨a,n,j_,b,hn,j,⟨h1,h2⟩,i⟩:=h;refine⟨a,n,j_,lj b hb.size,hn,(hb.O (p:=(Q R 0 Z)) (lj b f)).k j,⟨(hb.O (p:=(Q R 1 Z)) (lj b f)).k h1,(hb.frozen (p:=(Q R 1 Z)) (lj b f)).k h2⟩,?_⟩;exact i.ac (zd.q (hb.P f))
def Rd.low (h:Rd w R p)(hb:Below Z8 w l)(f:R<Z8):Rd l R p:=by
 obtain⟨a,n,j_,q,hn,s,⟨h1,h2⟩,r⟩:=h;refine⟨a,n,j_,lj q hb.size,hn,(hb.O (p:=(Q R 0 Z)) f).k s,⟨(hb.O (p:=(Q R 1 Z)) f).k h1,(hb.frozen (p:=(Q R 1 Z)) f).k h2⟩,?_⟩;rcases r with h|⟨b,off,e,j,m,t⟩
 {exact .inl h};{refine .inr ⟨b,off,e,j,lj m hb.size,λi hi=>?_⟩;obtain⟨u,o,g⟩:=t i hi;exact⟨u,o,(hb.O (p:=(Q b _ Z)) (Nat.lt_trans j f)).k g⟩}
def zd.then{u v:E}(h:zd R u v)(k:Below (A (B u)) v w):zd R u w:=
 ⟨k.os.k h.os,k.tape.k h.tape,k.output.k h.output,nX h.size k.size,λi hi f=>(k.p i hi).k (h.p i hi f),λb t fz hb=>let ⟨cs1,h1⟩:=h.ty b t fz hb;⟨cs1,(k.p R (aj hb)).k h1⟩⟩
def Rd.step (h:Rd w R p):Rd (ZU w (Q R 1 Z) (J I ((p:Int)+1))) R (p+1):=by obtain⟨a,n,j_,b,hn,g,⟨h1,h2⟩,f⟩:=h;refine⟨a,n,j_,by simpa using b,hn,(sq _ _ _ _ (by simp)).k g,⟨?_,by simpa using h2⟩,f.ac (ce (zd.refl R w) 1 _)⟩;rw[BO _ _ _ (by rw[h1];rfl)];rfl
def Eb (R p:Nat)(m:Int)(a:O_)(j_:Nat)(w:E)(h0:ZW w (Q R 0 Z)=T (Y a 0 j_))(h1:ZW w (Q R 1 Z)=T (J I p))(h2:ZX w (Q R 1 Z)=ZA)(hp:(p:Int)<=100000)(hm:1<=m):Calls Pg 25 #[.pointer (T (Q R 0 Z)),J I m] w λe b=>e=ZI (J I 0)/\b=ZU w (Q R 1 Z) (J I ((p:Int)+1)):=by go_enter func25,ntmps25;go_wp2;go_ret;exact⟨rfl,rfl⟩
def GT (R p:Nat)(m:Int)(b off n j_ u:Nat)(w:E)(h0:ZW w (Q R 0 Z)=T (Y (T (Q b off Z)) n j_))(h1:ZW w (Q R 1 Z)=T (J I p))(h2:ZX w (Q R 1 Z)=ZA)(hp:(p:Int)<=100000)(hm:1<=m)(hm2:m<=1000000)
  (hlt:p<n) (hb:b<R) (hu:u<256) (f:ZW w (Q b (off+p) Z)=T (J .u8 u)) :
  Calls Pg 25 #[.pointer (T (Q R 0 Z)),J I m] w λe i=>∃z:Int,e=ZI (J I z)/\0<=z/\z<m/\i=ZU w (Q R 1 Z) (J I ((p:Int)+1)):=by
 have hc':ZW (ZU w (Q R 1 Z) (J I ((p:Int)+1))) (Q b (off+p) Z)=T (J .u8 u):=(K_ _ _ _ _ (by simp;omega)).k f;obtain⟨z,hz,g,h⟩:∃z:Int,(u:Int).tmod m=z/\0<=z/\z<m:=⟨_,rfl,Int.tmod_nonneg _ (by omega),Int.tmod_lt_of_pos _ (by omega)⟩
 have hm0:¬ m=0:=by omega
 have hq:(decide (m<1) || ((n:Int) == 0))=ZA:=by simp;omega
 clear f;go_enter func25,ntmps25;go_wp2;go_ret;exact⟨z,rfl,g,h,rfl⟩
def Ec (R p:Nat)(m:Int)(b off n j_ u v:Nat)(w:E)(D:ZW w (Q R 0 Z)=T (Y (T (Q b off Z)) n j_))(h1:ZW w (Q R 1 Z)=T (J I p))(h2:ZX w (Q R 1 Z)=ZA)(hp:(p:Int)<=100000)(hm:1<=m)(hm2:m<=1000000)
  (hlt:¬ p<n) (hn1:1<=n) (hn:n<=2000) (hb:b<R) (hu:u<256) (hv:v<256) (o:w.cell? ⟨b,off+p % n,Z⟩=T (J .u8 u)) (l:w.cell? ⟨b,off+(p*7+3) % n,Z⟩=T (J .u8 v)) :
  Calls Pg 25 #[.pointer (T (Q R 0 Z)),J I m] w λe H=>∃z:Int,e=ZI (J I z)/\0<=z/\z<m/\Below (A (B (ZU w (Q R 1 Z) (J I ((p:Int)+1))))) (ZU w (Q R 1 Z) (J I ((p:Int)+1))) H:=by
 obtain⟨i,hi⟩:∃i,i=p % n:=⟨_,rfl⟩
 obtain⟨j,h⟩:∃j,j=(p*7+3) % n:=⟨_,rfl⟩
 obtain⟨d,f⟩:∃d,d=p / n:=⟨_,rfl⟩
 have hi2:i<n:=by rw[hi];exact UJ _ (by omega)
 have hj2:j<n:=by rw[h];exact UJ _ (by omega)
 have hd2:d<=p:=by rw[f];exact Nat.div_le_self _ _
 have e1:(p:Int).tmod n=i:=by rw[hi];rfl
 have e2:((p:Int)*7+3).tmod n=j:=by rw[h];rfl
 have e3:(p:Int) / n=d:=by rw[f];rfl
 rw[<-hi] at o;rw[<-h] at l;have ZZ:ZW (ZU w (Q R 1 Z) (J I ((p:Int)+1))) (Q b (off+i) Z)=T (J .u8 u):=(K_ _ _ _ _ (by simp;omega)).k o;have q:ZW (ZU w (Q R 1 Z) (J I ((p:Int)+1))) (Q b (off+j) Z)=T (J .u8 v):=(K_ _ _ _ _ (by simp;omega)).k l;have C:ZW (ZU w (Q R 1 Z) (J I ((p:Int)+1))) (Q R 0 Z)=T (Y (T (Q b off Z)) n j_):=(sq _ _ _ _ (by simp)).k D;obtain⟨x,t,hx2⟩:∃x:Nat,(u:Int)*131+v*1117+p*29+d*53=x/\x<1000000000000:=⟨u*131+v*1117+p*29+d*53,by omega,by omega⟩
 obtain⟨y,g,hy2⟩:=wW x (x / 64) (by omega) (by omega);rw[show((x / 64:Nat):Int)=(x:Int) / 64 from rfl] at g;obtain⟨z,hz,r,s⟩:∃z:Int,(y:Int).tmod m=z/\0<=z/\z<m:=⟨_,rfl,Int.tmod_nonneg _ (by omega),Int.tmod_lt_of_pos _ (by omega)⟩
 have hm0:¬ m=0:=by omega
 have hq:(decide (m<1) || ((n:Int) == 0))=ZA:=by simp;omega
 have hn0:¬ (n:Int)=0:=by omega
 have hge:(n:Int)<=p:=by omega
 have ZT:=ae t;have G:=ae g;have ZS:=ae hz;clear hi h o l t g hz f;go_enter func25,ntmps25;go_wp2_with fail;go_quiet (fail);have Z8:=ae (AD (a8 (A (B (ZU w (Q R 1 Z) (J I ((p:Int)+1))))) (ZU w (Q R 1 Z) (J I ((p:Int)+1)))) nq);rw[ZT.i];clear ZZ q C;generalize (ZU w (Q R 1 Z) (J I ((p:Int)+1))).drewN nq=W at Z8 ⊢;have g:=G.i;have hz:=ZS.i;go_wp2;go_ret;exact⟨z,rfl,r,s,Z8⟩
def ay (R p:Nat)(m:Int)(w:E)(hR:Rd w R p)(x:(p:Int)<=100000)(C:1<=m)(t:m<=1000000):Calls Pg 25 #[.pointer (T (Q R 0 Z)),J I m] w λe l=>∃z:Int,e=ZI (J I z)/\0<=z/\z<m/\Rd l R (p+1)/\zd R w l:=by
 have hR':=hR;have hst:=hR.step;have s:zd R w (ZU w (Q R 1 Z) (J I ((p:Int)+1))):=ce (zd.refl R w) 1 _;obtain⟨a,n,j_,hl,hn,y,⟨h1,h2⟩,ZT⟩:=hR;by_cases hz:n=0;{subst hz;exact(Eb R p m a j_ w y h1 h2 x C).P λe l ⟨j,g⟩=>⟨0,j,by omega,by omega,by rw[g];exact hst,by rw[g];exact s⟩}
 ·rcases ZT with h|⟨b,off,rfl,hb,hbl,ZZ⟩
  {exact absurd h hz};{by_cases i:p<n;{obtain⟨u,Z8,f⟩:=ZZ p i;exact(GT R p m b off n j_ u w y h1 h2 x C t i hb Z8 f).P λe l ⟨z,j,o,q,g⟩=>⟨z,j,o,q,by rw[g];exact hst,by rw[g];exact s⟩};{obtain⟨u,Z8,f⟩:=ZZ (p % n) (UJ _ (by omega));obtain⟨v,G,r⟩:=ZZ ((p*7+3) % n) (UJ _ (by omega));exact(Ec R p m b off n j_ u v w y h1 h2 x C t i (by omega) hn hb Z8 G f r).P λe l ⟨z,j,o,q,D⟩=>⟨z,j,o,q,hst.aa D ly,s.k (zd.q D)⟩}}
def ByteSl (w:E)(a:O_)(n:Nat):Prop:=n=0\/∃b off,a=T (Q b off Z)/\b<A (B w)/\∀i,i<n->∃u:Nat,u<256/\ZW w (Q b (off+i) Z)=T (J .u8 u)
def ByteSl.aa{j:E}(h:ByteSl w a n)(hb:Below Z8 w j)(m:A (B w)<=Z8):ByteSl j a n:=by
 rcases h with h|⟨b,off,e,g,o⟩
 {exact .inl h};{refine .inr ⟨b,off,e,lj g hb.size,λi hi=>?_⟩;obtain⟨u,l,f⟩:=o i hi;exact⟨u,l,(hb.O (p:=(Q b _ Z)) (lj g m)).k f⟩}
def uu{k j_:Nat}(h:ByteSl w a n)(hk:k<=n)(j:k<=2000)(t:ZK):Rd (w.alloc (N #[Y a k j_,J I 0] t)) (A (B w)) 0:=by
 refine⟨a,k,j_,by simp,j,by simp,⟨by simp,by simp⟩,?_⟩;rcases h with h|⟨b,off,e,g,m⟩
 {exact .inl (by omega)};{refine .inr ⟨b,off,e,g,by simp;omega,λi hi=>?_⟩;obtain⟨u,l,f⟩:=m i (by omega);exact⟨u,l,(((BS w).alloc ly _).O (p:=(Q b _ Z)) g).k f⟩}
def ze (b off n j_:Nat)(w:E)(hn:(n:Int)<=1048576)(hc:n<=j_)(f:ByteSl w (T (Q b off Z)) n):Calls Pg 23 #[Y (T (Q b off Z)) n j_] w λe g=>∃R,e=ZI (.pointer (T (Q R 0 Z)))/\(A (B w))<=R/\Rd g R 0/\Below (A (B w)) w g:=by
 have i:=ae f;clear f;by_cases h:(2000:Int)<n;all_goals
  go_enter func23,ntmps23;go_wp2;go_ret;first
   |exact⟨_,rfl,p7 _,uu i (k:=2000) (by omega) (by omega) _,br.alloc ly _⟩
   |exact⟨_,rfl,p7 _,uu i (k:=n) (by omega) (by omega) _,br.alloc ly _⟩
def zi (a:O_)(j_:Nat)(w:E):Calls Pg 23 #[Y a 0 j_] w λe b=>∃R,e=ZI (.pointer (T (Q R 0 Z)))/\(A (B w))<=R/\Rd b R 0/\Below (A (B w)) w b:=by have f:Hid (ByteSl w a 0):=.inl rfl;go_enter func23,ntmps23;go_wp2;go_ret;exact⟨_,rfl,p7 _,uu f (k:=0) (by omega) (by omega) _,br.alloc ly _⟩
def lR (a:O_)(n j_:Nat)(w:E)(hn:(n:Int)<=1048576)(i:n<=j_)(f:ByteSl w a n):Calls Pg 23 #[Y a n j_] w λe h=>∃R,e=ZI (.pointer (T (Q R 0 Z)))/\(A (B w))<=R/\Rd h R 0/\Below (A (B w)) w h:=by
 have g:=f;rcases f with rfl|⟨b,off,rfl,_,_⟩
 {exact zi a j_ w};{exact ze b off n j_ w hn i g}
def eP (s:F_)(n:Nat)(w:E)(h:s.size*n<=4000)(hn:(n:Int)<=4000):Calls Pg 41 #[U s,J I n] w λe u=>∃t:F_,e=ZI (U t)/\t.size<=s.size*n/\u=w:=by
 have H:=ae h;clear h;go_enter func41,ntmps41;go_wp2;go_loop [0,1,5] (λsv j y=>∃(x:F_) (k:Nat) (o:F_),sv=U x/\j=J I k/\y=U o/\(k:Int)<=4000/\Hid (o.size+x.size*k<=s.size*n)) (λ_ j _=>(intOf j).toNat);case atStart=>exact⟨s,n,⟨#[]⟩,rfl,rfl,rfl,hn,by show 0+s.size*n<=_;omega⟩
 case round =>
  obtain⟨x,k,o,rfl,rfl,rfl,hk,b⟩:=hrel;by_cases hz:(k:Int)=0
  ·obtain rfl:k=0:=by omega
   have q:o.size<=s.size*n:=by have:=b.i;omega
   have g:=ae q;clear q;go_wp2;go_ret;exact⟨o,rfl,g,rfl⟩
  ·have hpos:0<(k:Int):=by omega
   have m:x.size<=x.size*k:=Nat.le_mul_of_pos_right _ (by omega);have hx2:(x.size:Int)<=4000:=by have:=b.i;have:=H.i;omega
   have ho2:(o.size:Int)<=4000:=by have:=b.i;have:=H.i;omega
   have q5:(k:Int).tmod 2=(k:Int) % 2:=RY (by omega);have i:(x++x).size=x.size+x.size:=by simp
   have r:(o++x).size=o.size+x.size:=by simp
   have f:(x.size+x.size)*(k / 2)+x.size*(k % 2)=x.size*k:=by rw[show x.size*k=x.size*(2*(k / 2)+k % 2) by rw[Nat.div_add_mod]];rw[Nat.mul_add,<-Nat.mul_assoc,Nat.mul_two]
   have p:=ae f;clear f m;by_cases hodd:(k:Int) % 2=1
   ·have g:Hid (k % 2=1):=by show k % 2=1;omega
    go_wp2;refine⟨⟨x++x,k / 2,o++x,rfl,by go_num,rfl,by omega,?_⟩,by simp[intOf];omega⟩;show(o++x).size+(x++x).size*(k / 2)<=s.size*n;have:=b.i;have l:=p.i;rw[g.i,Nat.mul_one] at l;rw[i,r];omega
   ·have g:Hid (k % 2=0):=by show k % 2=0;omega
    go_wp2;refine⟨⟨x++x,k / 2,o,rfl,by go_num,rfl,by omega,?_⟩,by simp[intOf];omega⟩;show o.size+(x++x).size*(k / 2)<=s.size*n;have:=b.i;have l:=p.i;rw[g.i,Nat.mul_zero] at l;rw[i];omega
def rA (b:List UInt8):List ZB:=b.map λc=>J .u8 (c.toNat:Int)
def IE:(Pg.info? 5).map (λi=>(i.zero,i.size,i.bytes))=T (T (J .u8 0),1,1):=by kernel_rfl
def gE{size:Nat}{v:ZB}{i:List ZB}(h:ZY w b e size v n i)(f:zd R w l)(hR:R<b):ZY l b e size v n i:=by
 refine h.kept (row:=T R) ⟨f.os,f.tape,f.output,f.size,λk m j=>f.p k m (by simpa using j)⟩ ?_;rcases h.2 with⟨rfl,_⟩|⟨g,j_,cur,rfl,hg,_⟩
 {exact .inl rfl};{right;simp[Value.ownBlock];omega}
def zj{z:Int}(b:0<=z)(h1:z<159):∃c:UInt8,97+z=(c.toNat:Int):=by obtain⟨k,rfl⟩:=p9 b;refine⟨UInt8.ofNat (97+k),?_⟩;rw[UInt8.toNat_ofNat'];omega
def AX (b:List UInt8)(c:UInt8):rA (b++[c])=rA b++[J .u8 (c.toNat:Int)]:=by simp[rA]
def Ed (b:List UInt8)(w:E)(g j_ k:Nat)(h:ZV b=k)(i:∀j (f:j<ZV b),w.cell? (((Q g 0 Z):Addr).add j)=T (J .u8 (b[j].toNat:Int))):(convert 22 9 (Y (T (Q g 0 Z)) k j_)).run Pg w=.ok (U ⟨b.toArray⟩) w:=by subst h;refine VU _ 22 9 5 (Q g 0 Z) j_ b Q3 PQ ES ?_;intro j f;exact i j f
def fT (R p:Nat)(w:E)(hR:Rd w R p)(hp:(p:Int)<=50000):Calls Pg 42 #[.pointer (T (Q R 0 Z))] w λe w'=>∃t:F_,e=ZI (U t)/\t.size<=8/\∃q:Nat,q<=p+8/\Rd w' R q/\zd R w w':=by
 have HR:=ae hR;clear hR;go_enter func42,ntmps42;go_wp2_with fail;refine(ay R p 12 _ HR (by omega) (by omega) (by omega)).P ?_;rintro e n⟨z,rfl,hz0,hz1,ZS,D⟩;have x:=ae ZS;have ZR:=ae D;clear ZS D;by_cases h3:z=3
 ·subst h3;have M:=ae ((BS n).alloc ly (N #[U ⟨#[97,32,98]⟩,U ⟨#[97,9,98,32,99]⟩] 9));have P:=ae (x.aa M ly);have k0:(n.alloc (N #[U ⟨#[97,32,98]⟩,U ⟨#[97,9,98,32,99]⟩] 9)).cell? (Q (A (B n)) 0 Z)=T (U ⟨#[97,32,98]⟩):=by simp
  have W:(n.alloc (N #[U ⟨#[97,32,98]⟩,U ⟨#[97,9,98,32,99]⟩] 9)).cell? (Q (A (B n)) 1 Z)=T (U ⟨#[97,9,98,32,99]⟩):=by simp
  go_wp2_with fail;refine(ay R (p+1) 2 _ P (by omega) (by omega) (by omega)).P ?_;rintro e f⟨y,rfl,Z8,X,l,b⟩;have hl:=x.lt;have j0:=(b.O (A (B n)) 0 (by simp) (by omega)).k k0;have j1:=(b.O (A (B n)) 1 (by simp) (by omega)).k W;have L:=ae l;have ZZ:=ae ((ZR.k (zd.q M)).k b);clear l b k0 W M;rcases(show y=0\/y=1 by omega) with rfl|rfl;all_goals
   go_wp2;go_ret;exact⟨_,rfl,by decide,p+1+1,by omega,L,ZZ⟩
 by_cases h6:z<6
 ·rcases(show z=0\/z=1\/z=2\/z=4\/z=5 by omega) with rfl|rfl|rfl|rfl|rfl;all_goals
   go_wp2;go_ret;exact⟨_,rfl,by decide,p+1,by omega,x,ZR⟩
 have n0:¬ z=0:=by omega
 have n1:¬ z=1:=by omega
 have n2:¬ z=2:=by omega
 have n4:¬ z=4:=by omega
 have n5:¬ z=5:=by omega
 go_wp2_with fail;refine(ay R (p+1) 5 _ x (by omega) (by omega) (by omega)).P ?_;rintro e f⟨y,rfl,Z8,X,l,b⟩;have P:=ae l;have O2:=ae (ZR.k b);have H:=l.lt;clear l b;have V:=ae ((BS f).alloc ly (N #[] 5));have W2:=ae (OV f #[] 0 (e:=5) (size:=1) (p7 (A (B f))) (by unfold maxLen;omega) rfl);obtain⟨m,rfl⟩:=p9 Z8;obtain⟨aq,hi,bt,ZM,ZL⟩:=NP IE;go_wp2;go_loopw [4,5] (λv i wr=>∃(k:Nat) (h:List UInt8),k<=m+1/\i=J I k/\Hid (ZV h=k)/\Hid (wr.ownsRow (A (B f)) 5 1 v k (rA h))/\Hid (Rd wr R (p+2+k))/\Hid (zd R f wr)) (λ_ i _=>m+1 - (intOf i).toNat);case atStart=>exact⟨0,[],by omega,rfl,rfl,W2,P.aa V ly,zd.q V⟩
 case round =>
  obtain⟨k,h,hk,rfl,S,K,RR,ZN⟩:=hrel;have hsz:A (B f)<=A (B wr):=ZN.size;by_cases hlt:(k:Int)<=m;{go_wp2_with fail;refine(ay R (p+2+k) 4 _ RR (by omega) (by omega) (by omega)).P ?_;rintro e ZQ⟨c,rfl,fd,hc1,G,r⟩;obtain⟨C,hC⟩:=zj fd (by omega);have L:=ae G;have ZZ:=ae (ZN.k r);have ZT:=ae (gE K r H);have ZP:A (B f)<=A (B ZQ):=ZZ.size;clear G r;go_wp2_with (at_builtin;refine DN _ rfl (.tmp 33) (.tmp 38) 22 rfl (A (B f)) 5 aq (J .u8 0) 1 1 Q3 hi bt ZM ZL rfl (by decide) _ k (rA h) (by simp[Act.eval]) (ZT.alloc _) (Q (A (B ZQ)) 0 Z) 1 1 [J .u8 (C.toNat:Int)] (by simp[Act.eval]) rfl (ep _ _ _) (by simp[Value.oneCell']) (by unfold maxLen;omega) (by omega) (by simp;omega) ?_;intro v' w4 s o O;have O4:=ae s;have B4:=ae (bg ((a8 (A (B f)) ZQ).alloc ZP (N #[J .u8 (C.toNat:Int)] 5)) o (by simp;omega) (λj e=>(ZT.lt j e).1));clear s o O);refine⟨⟨k+1,h++[C],by omega,by go_num,by show(h++[C]).length=k+1;simp[S.i],?_,?_,ZZ.then B4.i⟩,by simp[intOf];omega⟩;{show World.ownsRow _ _ _ _ _ _ _;rw[AX];exact O4};{exact L.low B4 H}}
  ·have O5:=ae (O2.k ZN);obtain⟨g,j_,rfl⟩:=iA K (by omega);have ex:=Ed h wr g j_ k S.i (λj hj=>K.cells (g:=g) rfl j _ (by simp[rA,hj]));have u:(⟨h.toArray⟩:F_).size<=8:=by show h.toArray.size<=8;have:=S.i;simp;omega
   have HZ:=ae u;generalize (⟨h.toArray⟩:F_)=ZO at ex HZ;clear u;go_wp2;go_ret;exact⟨ZO,rfl,HZ,p+2+k,by omega,RR,O5⟩
def CI (w:E)(b:Nat)(x y z:ZB):Prop:=w.heap[b]?=T (N #[x,y,z] 124 (0,0))
def CI.new (w:E)(x y z:ZB):CI (w.alloc (N #[x,y,z] 124)) (A (B w)) x y z:=gM w _
def GU:(Pg.info? 124).map (·.size)=T 3:=by kernel_rfl
abbrev I3:=Int × List UInt8 × Int
def i3V (i:I3):List ZB:=[J I i.1,U ⟨i.2.1.toArray⟩,J I i.2.2]
def i3L (L:List I3):List ZB:=L.flatMap i3V
def jA:∀L:List I3,(i3L L).length=ZV L*3
 |[]=>rfl
 |i::L=>by have:=jA L;simp only[i3L,N9,cM,vF] at this ⊢;rw[this];simp[i3V];omega
def Ee{j:Nat}{v:ZB}{f:List ZB}(h:ZY w b e i v n f)(hR:R<b)(u:ZB):(ZU w (Q R j Z) u).ownsRow b e i v n f:=by
 refine⟨h.1,?_⟩;rcases h.2 with hn|⟨g,j_,l,p,m,o,r⟩
 {exact .inl hn}
 ·refine .inr ⟨g,j_,l,p,m,?_,r⟩;have:R≠g:=by omega
  simp[World.setCell,NR,this,o]
def PB (w:E)(b:Nat)(v:ZB):Prop:=w.heap[b]?=T (N #[v] 37 (0,0))
def PB.lt{v:ZB}(h:PB w b v):b<A (B w):=(CV.1 h).1
def PB.c0{v:ZB}(h:PB w b v):ZW w (Q b 0 Z)=T v:=by rw[Lib.cell_of_heap h];rfl
def PB.fz{v:ZB}(h:PB w b v)(j:Nat):ZX w (Q b j Z)=ZA:=YD h j
def PB.aa{v:ZB}(h:PB w b v)(hb:Below Z8 w f)(g:b<Z8):PB f b v:=(hb.p b g).k h
def PB.set{v:ZB}(h:PB w b v)(f:ZB):PB (ZU w (Q b 0 Z) f) b f:=by unfold PB at *;simp[World.setCell,NR,h]
def wX:(Pg.info? 37).map (·.size)=T 1:=by kernel_rfl
def pi{fn:Func}{p:Tmp}(h:fn.results=#[.cell p 124])(tmps:Array ZB)(w:E)(g:Nat)(x y z:ZB)(b:tmps.getD p undef=.pointer (T (Q g 0 Z)))(f:CI w g x y z):(results fn tmps).run Pg w=.ok (ZJ #[x,y,z]) w:=
 results_cell_row h tmps w g 124 #[x,y,z] (0,0) _ b f underlying124 rfl GU
def bC (s:F_)(w:E):Calls Pg 72 #[U s] w λe b=>e=ZI (ZJ #[J I 1,U s,J I 0])/\Below (A (B w)) w b:=by
 go_enter func72,ntmps72;go_wp2;try simp only[Exit.inBlock,Exit.then]
 refine bp (pi rfl _ _ (A (B w)) _ _ _ rfl (CI.new w _ _ _)) rfl ?_;exact⟨rfl,br.alloc ly _⟩
def bq (op:Int)(w:E):Calls Pg 73 #[J I op] w λe b=>e=ZI (ZJ #[J I op,U ⟨#[]⟩,J I 0])/\Below (A (B w)) w b:=by
 go_enter func73,ntmps73;go_wp2;try simp only[Exit.inBlock,Exit.then]
 refine bp (pi rfl _ _ (A (B w)) _ _ _ rfl (CI.new w _ _ _)) rfl ?_;exact⟨rfl,br.alloc ly _⟩
def bS (op n:Int)(w:E):Calls Pg 101 #[J I op,J I n] w λe b=>e=ZI (ZJ #[J I op,U ⟨#[]⟩,J I n])/\Below (A (B w)) w b:=by
 go_enter func101,ntmps101;go_wp2;try simp only[Exit.inBlock,Exit.then]
 refine bp (pi rfl _ _ (A (B w)) _ _ _ rfl (CI.new w _ _ _)) rfl ?_;exact⟨rfl,br.alloc ly _⟩
def oL (n:Int)(w:E):Calls Pg 141 #[J I n] w λe b=>e=ZI (J I (if 200<n then 200 else n))/\b=w:=by
 by_cases h:200<n;{rw[eT h];go_enter func141,ntmps141;go_wp2;go_ret;exact⟨rfl,rfl⟩};{rw[eI h];go_enter func141,ntmps141;go_wp2;go_ret;exact⟨rfl,rfl⟩}
def dH (R p:Nat)(w:E)(hR:Rd w R p)(hp:(p:Int)<=90000):Calls Pg 38 #[.pointer (T (Q R 0 Z))] w λe j=>∃t:F_,e=ZI (U t)/\t.size<=30/\Rd j R (p+1)/\zd R w j:=by
 have o:=ae hR;clear hR;go_enter func38,ntmps38;go_wp2_with fail;refine(ay R p 16 _ o (by omega) (by omega) (by omega)).P ?_;rintro e w1⟨z,rfl,hz0,hz1,f,g⟩;have i:=ae f;have h:=ae g;clear f g;by_cases h6:z<6
 ·rcases(show z=0\/z=1\/z=2\/z=3\/z=4\/z=5 by omega) with rfl|rfl|rfl|rfl|rfl|rfl;all_goals
   go_wp2;go_ret;exact⟨_,rfl,by decide,i,h⟩
 ·by_cases h14:z<14
  ·obtain⟨m,rfl⟩:∃m:Nat,z=(m:Int)+6:=⟨(z - 6).toNat,by omega⟩
   have hm:m<=7:=by omega
   have DC:=ae (λV=>sA m (by omega) V);have hd:=GQ m (by omega);go_wp2_with fail;refine(DC _).P ?_;rintro e w2⟨rfl,b⟩;have l:=ae (i.aa b ly);have n:=ae (h.k (zd.q b));clear b;go_wp2;go_ret;exact⟨_,rfl,by rw[PV];show 1+(Lib.decDigits m).length<=30;omega,l,n⟩
  {go_wp2;go_ret;exact⟨_,rfl,by decide,i,h⟩}
def pj:∃i,Pg.info? 124=T i/\i.zero=T (ZJ #[J I 0,U ⟨#[]⟩,J I 0])/\i.size=3/\i.bytes=32:=by obtain⟨i,hi,hz⟩:=RH.1 ou;simp only[LK] at hz;exact⟨i,hi,hz⟩
def IR (w:E)(b g c:Nat)(L:List I3):Prop:=ZY w b 124 3 (Y (T (Q g 0 Z)) (ZV L) c) (ZV L) (i3L L)
def IR.aa{c:Nat}{L:List I3}(h:IR w b g c L)(hb:Below Z8 w f)(i:A (B w)<=Z8):IR f b g c L:=J_ h hb i
def IR.lt{c:Nat}{L:List I3}(h:IR w b g c L):b<=g/\g<A (B w):=World.ownsRow.lt h g rfl
def IR.ac{c:Nat}{L:List I3}(h:IR w b g c L)(i:zd R w f)(hR:R<b):IR f b g c L:=gE h i hR
def IR.lit (w:E):IR (w.alloc (N #[] 124)) (A (B w)) (A (B w)) 0 []:=
 ⟨by simp[i3L],.inr ⟨A (B w),0,#[],rfl,p7 _,gM w _,p7 _,by unfold maxLen;omega,by simp,by simp[i3L]⟩⟩
def rB (L M:List I3):i3L (L++M)=i3L L++i3L M:=by simp[i3L]
def xQ (L:List I3):∀u∈i3L L,u.oneCell'=true:=by intro u b;simp only[i3L,QR,i3V] at b;obtain⟨x,_,f⟩:=b;simp at f;rcases f with rfl|rfl|rfl<;>simp[Value.oneCell']
def gK (b off j:Nat):((Q b off Z):Addr).add j=(Q b (off+j) Z):=by unfold Addr.add;split<;>simp_all
def eQ (w:E)(b:Array ZB)(t:ZK):∀j u,b.toList[j]?=T u->(w.alloc (N b t)).cell? (((Q (A (B w)) 0 Z):Addr).add j)=T u:=by intro j u f;rw[gK,IT];exact kH w b t (A (B w)) j u rfl (by simpa using f)
def IR.news{c:Nat}{L:List I3}(h:IR w b g c L):∀j u,(i3L L)[j]?=T u->w.cell? (((Q g 0 Z):Addr).add j)=T u:=λj u f=>World.ownsRow.cells h (g:=g) rfl j u f
def gL{q:Array Oper}{rest:List Oper}{o:Oper}{a:Act}{ZP:Exit->Act->E->Prop}(C:o.guard=Z)(s x:Operand)
  (H:o.op=.call { callee:=.builtin .append,args:=#[s,x],argTypes:=#[35,35] }) (b g c:Nat) (L:List I3) (G:a.eval s=Y (T (Q g 0 Z)) (ZV L) c) (t:IR w b g c L)
  (y:Addr) (m d:Nat) (M:List I3) (ZQ:a.eval x=Y (T y) m d) (K:m=ZV M) (ZZ:M≠[]) (p:∀j u,(i3L M)[j]?=T u->w.cell? (y.add j)=T u) (hlen:ZV L+ZV M<=100000) (hb:b<=A (B w))
  (h:∀f i l,IR l b f i (L++M)->w.grownBy l (T g)->wpList Pg q ZP rest (a.put o.dst (Y (T (Q f 0 Z)) (L++M).length i)) l):wpList Pg q ZP (o::rest) a w:=by
 obtain⟨ZR,hi,D,Z8,z⟩:=pj;subst K;refine DN _ C s x 35 H b 124 ZR (ZJ #[J I 0,U ⟨#[]⟩,J I 0]) 3 32 QE hi D Z8 z rfl (by decide) _ (ZV L) (i3L L) G t y (ZV M) d (i3L M) ZQ (jA M) p (xQ M) (by unfold maxLen;omega) (by omega) hb ?_;intro ZT l n ZS _;have hp:0<ZV M:=NW.2 ZZ;have r:∃f i,ZT=Y (T (Q f 0 Z)) (ZV L+ZV M) i:=by
  rcases n.2 with⟨_,h0⟩|⟨f,j_,cur,r,_⟩
  {omega};{exact⟨f,j_,r⟩}
 obtain⟨f,i,rfl⟩:=r;have e:(L++M).length=ZV L+ZV M:=cM;rw[<-e] at n ⊢;rw[<-rB] at n;exact h f i l n ZS
def DI (w:E)(R q n:Nat)(e:Ending)(b:E):Prop:=∃(L:List I3) (g c:Nat),e=ZI (Y (T (Q g 0 Z)) (ZV L) c)/\IR b (A (B w)) g c L/\L≠[]/\(ZV L)<=n/\(∀i∈L,i.2.1.length<=5000)/\∃f:Nat,f<=q/\Rd b R f/\zd R w b
def uv:∀(L:List I3) (i:Nat) (n:Int) (x:I3),L[i]?=T x->i3L (L.set i (x.1,x.2.1,n))=(i3L L).set (i*3+2) (J I n)
 |[],i,n,x,h=>by simp at h
 |y::L,0,n,x,h=>by simp at h;subst h;rfl
 |y::L,i+1,n,x,h=>by simp at h;have f:=uv L i n x h;have b:(i3V y).length=3:=rfl;rw[VA];show i3V y++i3L (L.set i (x.1,x.2.1,n))=(i3V y++i3L L).set ((i+1)*3+2) (J I n);rw[f,T9 _ _ (by rw[b];omega),b,show(i+1)*3+2 - 3=i*3+2 by omega]
def IR.setN{c:Nat}{L:List I3}(h:IR w b g c L)(hi:i<ZV L)(n:Int):∃j,ZV j=ZV L/\((∀x∈L,x.2.1.length<=5000)->∀x∈j,x.2.1.length<=5000)/\IR (ZU w (Q g (i*3+2) Z) (J I n)) b g c j:=by
 have s:L[i]?=T L[i]:=gq hi;refine⟨L.set i (L[i].1,L[i].2.1,n),NJ,λl x r=>?_,?_⟩;{rcases OR r with h1|h1;{exact l x h1};{rw[h1];exact l L[i] (gz hi)}}
 ·unfold IR;rw[NJ,uv L i n L[i] s];refine⟨by rw[NJ];exact h.1,?_⟩;rcases h.2 with⟨f,h0⟩|⟨g',j_,m,f,hb,q,h1,h2,o,p⟩
  {simp at f};{simp only[IN,ND,RP] at f;obtain⟨⟨rfl,-⟩,-,rfl⟩:=f;refine .inr ⟨g,c,m.setIfInBounds (i*3+2) (J I n),rfl,hb,?_,h1,h2,by simpa using o,?_⟩;{simp[World.setCell,NR,q]};{rw[R8,YV,p]}}
def IR.cellN{f c:Nat}{L:List I3}(h:IR w f g c L)(hi:i<ZV L):(∃v,ZW w (Q g (i*3+2) Z)=T (J I v))/\ZX w (Q g (i*3+2) Z)=ZA:=by
 have o:L[i]?=T L[i]:=gq hi;have j:∀(L:List I3) (i:Nat) (x:I3),L[i]?=T x->(i3L L)[i*3+2]?=T (J I x.2.2):=by
  intro L;induction L with
  |nil=>intro i x h;simp at h
  |cons y L p =>
   intro i x h;cases i with
   |zero=>simp at h;subst h;rfl
   |succ i =>simp at h;have m:(i3V y).length=3:=rfl;show(i3V y++i3L L)[(i+1)*3+2]?=_;rw[KK (by rw[m];omega),m,show(i+1)*3+2 - 3=i*3+2 by omega];exact p i x h
 have l:=World.ownsRow.cells h (g:=g) rfl _ _ (j L i L[i] o);rw[gK,IT] at l;refine⟨⟨_,l⟩,?_⟩;rcases h.2 with⟨b,_⟩|⟨g',j_,cur,b,_,n,_⟩
 {simp at b};{simp only[IN,ND,RP] at b;obtain⟨⟨rfl,-⟩,-,rfl⟩:=b;exact YD n _}
