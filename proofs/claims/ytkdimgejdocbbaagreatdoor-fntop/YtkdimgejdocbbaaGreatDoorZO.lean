import Derived.Test.YtkdimgejdocbbaaGreatDoorZL
import Derived.Laws.BitsAllLaws
set_option maxHeartbeats 2000000
open Go.Addr renaming mk->J
open Go.Value renaming slice->Z,string->U,int->Q
open Option renaming none->Y,some->N
open Go.IntKind renaming i64->I
open Go renaming World->E
open Bool renaming false->D
open Go.Ending renaming returned->QD
namespace Go.Proofs.YtkdimgejdocbbaaGreatDoor.Vp
open RowKit
theorem tN (a b:Nat)(d:a<4611686018427387904)(hb:b<4611686018427387904):∃ x:Nat,bits .xor I (a:Int) (b:Int)=x/\x<4611686018427387904:=by
 have hx:a ^^^ b<2 ^ 62:=Nat.xor_lt_two_pow (by omega) (by omega);refine⟨a ^^^ b,?_,by omega⟩;show IntKind.i64.wrap ((BitVec.ofInt 64 (a:Int) ^^^ BitVec.ofInt 64 (b:Int)).toNat:Int)=_;have e:∀ x:Nat,x<4611686018427387904->(BitVec.ofInt 64 (x:Int)).toNat=x:=fun x h=>by rw[BitVec.toNat_ofInt];omega
 rw[BitVec.toNat_xor,e a d,e b hb,vF];omega
def SlByte (w:E)(R:Nat)(a:Option Addr)(n:Nat):Prop:=n=0∨∃ b off,a=N (J b off Y)/\b<R/\b<w.heap.size/\∀ i,i<n->∃ u:Nat,u<256/\w.cell? (J b (off+i) Y)=N (Q .u8 u)
theorem SlByte.only {w f:E}{R n:Nat}{a:Option Addr}(h:SlByte w R a n)(j:Only R w f):SlByte f R a n:=by
 rcases h with h | ⟨b,off,e,hb,g,k⟩
 ·exact .inl h
 ·refine .inr ⟨b,off,e,hb,ll g j.size,fun i hi=>?_⟩
  obtain⟨u,l,d⟩:=k i hi;exact⟨u,l,(j.cell b _ g (by omega)).trans d⟩
def Rd (w:E)(R p:Nat):Prop:=∃ a n b,R<w.heap.size/\n<=2000/\w.cell? (J R 0 Y)=N (Z a n b)/\(w.cell? (J R 1 Y)=N (Q I p)/\w.frozen? (J R 1 Y)=D)/\SlByte w R a n
theorem Rd.lt {w:E}{R p:Nat}(h:Rd w R p):R<w.heap.size:=by obtain⟨_,_,_,h,_⟩:=h;exact h
theorem Rd.below {w f:E}{B R p:Nat}(h:Rd w R p)(hb:Below B w f)(d:w.heap.size<=B):Rd f R p:=by obtain⟨a,n,g,b,k,j,⟨h1,h2⟩,i⟩:=h;refine⟨a,n,g,ll b hb.size,k,(hb.cell (p:=(J R 0 Y)) (ll b d)).trans j,⟨(hb.cell (p:=(J R 1 Y)) (ll b d)).trans h1,(hb.frozen (p:=(J R 1 Y)) (ll b d)).trans h2⟩,?_⟩;exact i.only (Only.of_below (hb.mono d))
theorem Rd.low {w j:E}{B R p:Nat}(h:Rd w R p)(hb:Below B w j)(f:R<B):Rd j R p:=by
 obtain⟨a,n,l,r,t,s,⟨h1,h2⟩,q⟩:=h;refine⟨a,n,l,ll r hb.size,t,(hb.cell (p:=(J R 0 Y)) f).trans s,⟨(hb.cell (p:=(J R 1 Y)) f).trans h1,(hb.frozen (p:=(J R 1 Y)) f).trans h2⟩,?_⟩;rcases q with h | ⟨b,off,e,g,k,m⟩
 ·exact .inl h
 ·refine .inr ⟨b,off,e,g,ll k hb.size,fun i hi=>?_⟩
  obtain⟨u,o,d⟩:=m i hi;exact⟨u,o,(hb.cell (p:=(J b _ Y)) (Nat.lt_trans g f)).trans d⟩
theorem Only.then {R:Nat}{u v w:E}(h:Only R u v)(k:Below u.heap.size v w):Only R u w :=
 ⟨k.os.trans h.os,k.tape.trans h.tape,k.output.trans h.output,j5 h.size k.size,fun i hi b=>(k.block i hi).trans (h.block i hi b),fun d t fz hb=>let ⟨cs1,h1⟩:=h.ty d t fz hb;⟨cs1,(k.block R (aC hb)).trans h1⟩⟩
theorem Rd.step {w:E}{R p:Nat}(h:Rd w R p):Rd (w.setCell (J R 1 Y) (Q I ((p:Int)+1))) R (p+1):=by obtain⟨a,n,b,g,i,d,⟨h1,h2⟩,f⟩:=h;refine⟨a,n,b,by simpa using g,i,(sq _ _ _ _ (by simp)).trans d,⟨?_,by simpa using h2⟩,f.only (bZ (Only.refl R w) 1 _)⟩;rw[AI _ _ _ (by rw[h1];rfl)];rfl
theorem zE (R p:Nat)(m:Int)(a:Option Addr)(b:Nat)(w:E)(h0:w.cell? (J R 0 Y)=N (Z a 0 b))(h1:w.cell? (J R 1 Y)=N (Q I p))(h2:w.frozen? (J R 1 Y)=D)(hp:(p:Int)<=100000)(hm:1<=m):Calls Tryz.prog 57 #[.pointer (N (J R 0 Y)),Q I m] w fun e d=>e=QD (Q I 0)/\d=w.setCell (J R 1 Y) (Q I ((p:Int)+1)):=by go_enter Tryz.func57,Tryz.ntmps57;go_wp2;go_ret;exact⟨rfl,rfl⟩
theorem Cq (R p:Nat)(m:Int)(b off n h u:Nat)(w:E)(h0:w.cell? (J R 0 Y)=N (Z (N (J b off Y)) n h))(h1:w.cell? (J R 1 Y)=N (Q I p))(h2:w.frozen? (J R 1 Y)=D)(hp:(p:Int)<=100000)(hm:1<=m)(hm2:m<=100000)
  (hlt:p<n) (hb:b<R) (hu:u<256) (d:w.cell? (J b (off+p) Y)=N (Q .u8 u)) :
  Calls Tryz.prog 57 #[.pointer (N (J R 0 Y)),Q I m] w fun e i=>∃ z:Int,e=QD (Q I z)/\0<=z/\z<m/\i=w.setCell (J R 1 Y) (Q I ((p:Int)+1)):=by
 have hc':(w.setCell (J R 1 Y) (Q I ((p:Int)+1))).cell? (J b (off+p) Y)=N (Q .u8 u):=(cell_far _ _ _ _ (by simp;omega)).trans d;obtain⟨z,hz,f,g⟩:∃ z:Int,(u:Int).tmod m=z/\0<=z/\z<m:=⟨_,rfl,Int.tmod_nonneg _ (by omega),Int.tmod_lt_of_pos _ (by omega)⟩
 have hm0:¬ m=0:=by omega
 have hq:(decide (m<1) || ((n:Int) == 0))=D:=by simp;omega
 clear d;go_enter Tryz.func57,Tryz.ntmps57;go_wp2;go_ret;exact⟨z,rfl,f,g,rfl⟩
theorem zF (R p:Nat)(m:Int)(b off n k u v:Nat)(w:E)(QQ:w.cell? (J R 0 Y)=N (Z (N (J b off Y)) n k))(h1:w.cell? (J R 1 Y)=N (Q I p))(h2:w.frozen? (J R 1 Y)=D)(hp:(p:Int)<=100000)(hm:1<=m)(hm2:m<=100000)
  (hlt:¬ p<n) (hn1:1<=n) (hn:n<=2000) (hb:b<R) (hu:u<256) (hv:v<256) (l:w.cell? ⟨b,off+p % n,Y⟩=N (Q .u8 u)) (o:w.cell? ⟨b,off+(p*7+3) % n,Y⟩=N (Q .u8 v)) :
  Calls Tryz.prog 57 #[.pointer (N (J R 0 Y)),Q I m] w fun e C=>∃ z:Int,e=QD (Q I z)/\0<=z/\z<m/\Below (w.setCell (J R 1 Y) (Q I ((p:Int)+1))).heap.size (w.setCell (J R 1 Y) (Q I ((p:Int)+1))) C:=by
 obtain⟨i,hi⟩:∃ i,i=p % n:=⟨_,rfl⟩
 obtain⟨j,g⟩:∃ j,j=(p*7+3) % n:=⟨_,rfl⟩
 obtain⟨d,f⟩:∃ d,d=p / n:=⟨_,rfl⟩
 have hi2:i<n:=by rw[hi];exact NH _ (by omega)
 have hj2:j<n:=by rw[g];exact NH _ (by omega)
 have hd2:d<=p:=by rw[f];exact Nat.div_le_self _ _
 have e1:(p:Int).tmod n=i:=by rw[hi];rfl
 have e2:((p:Int)*7+3).tmod n=j:=by rw[g];rfl
 have e3:(p:Int) / n=d:=by rw[f];rfl
 rw[<-hi] at l;rw[<-g] at o;have s:(w.setCell (J R 1 Y) (Q I ((p:Int)+1))).cell? (J b (off+i) Y)=N (Q .u8 u):=(cell_far _ _ _ _ (by simp;omega)).trans l;have A:(w.setCell (J R 1 Y) (Q I ((p:Int)+1))).cell? (J b (off+j) Y)=N (Q .u8 v):=(cell_far _ _ _ _ (by simp;omega)).trans o;have QP:(w.setCell (J R 1 Y) (Q I ((p:Int)+1))).cell? (J R 0 Y)=N (Z (N (J b off Y)) n k):=(sq _ _ _ _ (by simp)).trans QQ;obtain⟨x,B,hx2⟩:∃ x:Nat,(u:Int)*131+v*1117+p*29+d*53=x/\x<1000000000000:=⟨u*131+v*1117+p*29+d*53,by omega,by omega⟩
 obtain⟨y,h,hy2⟩:=tN x (x / 64) (by omega) (by omega);rw[show((x / 64:Nat):Int)=(x:Int) / 64 from rfl] at h;obtain⟨z,hz,r,t⟩:∃ z:Int,(y:Int).tmod m=z/\0<=z/\z<m:=⟨_,rfl,Int.tmod_nonneg _ (by omega),Int.tmod_lt_of_pos _ (by omega)⟩
 have hm0:¬ m=0:=by omega
 have hq:(decide (m<1) || ((n:Int) == 0))=D:=by simp;omega
 have hn0:¬ (n:Int)=0:=by omega
 have hge:(n:Int)<=p:=by omega
 have QO:=ae B;have G:=ae h;have H:=ae hz;clear hi g l o B h hz f;go_enter Tryz.func57,Tryz.ntmps57;go_wp2_with fail;go_quiet (fail);have q:=ae (xT (eI (w.setCell (J R 1 Y) (Q I ((p:Int)+1))).heap.size (w.setCell (J R 1 Y) (Q I ((p:Int)+1)))) nq);rw[QO.out];clear s A QP;generalize (w.setCell (J R 1 Y) (Q I ((p:Int)+1))).drewN nq=W at q ⊢;have h:=G.out;have hz:=H.out;go_wp2;go_ret;exact⟨z,rfl,r,t,q⟩
theorem aD (R p:Nat)(m:Int)(w:E)(hR:Rd w R p)(t:(p:Int)<=100000)(x:1<=m)(s:m<=100000):Calls Tryz.prog 57 #[.pointer (N (J R 0 Y)),Q I m] w fun e g=>∃ z:Int,e=QD (Q I z)/\0<=z/\z<m/\Rd g R (p+1)/\Only R w g:=by
 have hR':=hR;have hst:=hR.step;have q:Only R w (w.setCell (J R 1 Y) (Q I ((p:Int)+1))):=bZ (Only.refl R w) 1 _;obtain⟨a,n,k,hl,G,y,⟨h1,h2⟩,QQ⟩:=hR;by_cases hz:n=0
 ·subst hz
  exact(zE R p m a k w y h1 h2 t x).mono fun e g ⟨r,o⟩=>⟨0,r,by omega,by omega,by rw[o];exact hst,by rw[o];exact q⟩
 ·rcases QQ with h | ⟨b,off,rfl,hb,hbl,A⟩
  ·exact absurd h hz
  ·by_cases l:p<n
   ·obtain⟨u,B,d⟩:=A p l
    exact(Cq R p m b off n k u w y h1 h2 t x s l hb B d).mono fun e g ⟨z,r,f,j,o⟩=>⟨z,r,f,j,by rw[o];exact hst,by rw[o];exact q⟩
   ·obtain⟨u,B,d⟩:=A (p % n) (NH _ (by omega))
    obtain⟨v,QP,i⟩:=A ((p*7+3) % n) (NH _ (by omega));exact(zF R p m b off n k u v w y h1 h2 t x s l (by omega) G hb B QP d i).mono fun e g ⟨z,r,f,j,C⟩=>⟨z,r,f,j,hst.below C lr,q.trans (Only.of_below C)⟩
def ByteSl (w:E)(a:Option Addr)(n:Nat):Prop:=n=0∨∃ b off,a=N (J b off Y)/\b<w.heap.size/\∀ i,i<n->∃ u:Nat,u<256/\w.cell? (J b (off+i) Y)=N (Q .u8 u)
theorem ByteSl.below {w f:E}{B n:Nat}{a:Option Addr}(h:ByteSl w a n)(hb:Below B w f)(l:w.heap.size<=B):ByteSl f a n:=by
 rcases h with h | ⟨b,off,e,g,j⟩
 ·exact .inl h
 ·refine .inr ⟨b,off,e,ll g hb.size,fun i hi=>?_⟩
  obtain⟨u,k,d⟩:=j i hi;exact⟨u,k,(hb.cell (p:=(J b _ Y)) (ll g l)).trans d⟩
theorem rC {w:E}{a:Option Addr}{n k f:Nat}(h:ByteSl w a n)(hk:k<=n)(j:k<=2000)(t:TypeId):Rd (w.alloc (.cells #[Z a k f,Q I 0] t)) w.heap.size 0:=by
 refine⟨a,k,f,by simp,j,by simp,⟨by simp,by simp⟩,?_⟩;rcases h with h | ⟨b,off,e,g,l⟩
 ·exact .inl (by omega)
 ·refine .inr ⟨b,off,e,g,by simp;omega,fun i hi=>?_⟩
  obtain⟨u,m,d⟩:=l i (by omega);exact⟨u,m,(((Qs w).alloc lr _).cell (p:=(J b _ Y)) g).trans d⟩
theorem vT (b off n d:Nat)(w:E)(hn:(n:Int)<=1048576)(hc:n<=d)(g:ByteSl w (N (J b off Y)) n):Calls Tryz.prog 54 #[Z (N (J b off Y)) n d] w fun e i=>∃ R,e=QD (.pointer (N (J R 0 Y)))/\w.heap.size<=R/\Rd i R 0/\Below w.heap.size w i:=by
 have f:=ae g;clear g;by_cases h:(2000:Int)<n;all_goals
  go_enter Tryz.func54,Tryz.ntmps54;go_wp2;go_ret;first
   | exact⟨_,rfl,j6 _,rC f (k:=2000) (by omega) (by omega) _,br.alloc lr _⟩
   | exact⟨_,rfl,j6 _,rC f (k:=n) (by omega) (by omega) _,br.alloc lr _⟩
theorem vU (a:Option Addr)(d:Nat)(w:E):Calls Tryz.prog 54 #[Z a 0 d] w fun e b=>∃ R,e=QD (.pointer (N (J R 0 Y)))/\w.heap.size<=R/\Rd b R 0/\Below w.heap.size w b:=by have f:Hid (ByteSl w a 0):=.inl rfl;go_enter Tryz.func54,Tryz.ntmps54;go_wp2;go_ret;exact⟨_,rfl,j6 _,rC f (k:=0) (by omega) (by omega) _,br.alloc lr _⟩
theorem kg (a:Option Addr)(n d:Nat)(w:E)(j:(n:Int)<=1048576)(i:n<=d)(g:ByteSl w a n):Calls Tryz.prog 54 #[Z a n d] w fun e h=>∃ R,e=QD (.pointer (N (J R 0 Y)))/\w.heap.size<=R/\Rd h R 0/\Below w.heap.size w h:=by
 have f:=g;rcases g with rfl | ⟨b,off,rfl,_,_⟩
 ·exact vU a d w
 ·exact vT b off n d w j i f
theorem fw (s:ByteArray)(n:Nat)(w:E)(h:s.size*n<=4000)(u:(n:Int)<=4000):Calls Tryz.prog 60 #[U s,Q I n] w fun e r=>∃ t:ByteArray,e=QD (U t)/\t.size<=s.size*n/\r=w:=by
 have H:=ae h;clear h;go_enter Tryz.func60,Tryz.ntmps60;go_wp2;go_loop [0,1,5] (fun sv i y=>∃ (x:ByteArray) (k:Nat) (o:ByteArray),sv=U x/\i=Q I k/\y=U o/\(k:Int)<=4000/\Hid (o.size+x.size*k<=s.size*n)) (fun _ i _=>(intOf i).toNat);case atStart=>exact⟨s,n,⟨#[]⟩,rfl,rfl,rfl,u,by show 0+s.size*n<=_;omega⟩
 case round =>
  obtain⟨x,k,o,rfl,rfl,rfl,hk,f⟩:=hrel;by_cases hz:(k:Int)=0
  ·obtain rfl:k=0:=by omega
   have p:o.size<=s.size*n:=by have:=f.out;omega
   have b:=ae p;clear p;go_wp2;go_ret;exact⟨o,rfl,b,rfl⟩
  ·have hpos:0<(k:Int):=by omega
   have l:x.size<=x.size*k:=Nat.le_mul_of_pos_right _ (by omega);have hx2:(x.size:Int)<=4000:=by have:=f.out;have:=H.out;omega
   have ho2:(o.size:Int)<=4000:=by have:=f.out;have:=H.out;omega
   have q5:(k:Int).tmod 2=(k:Int) % 2:=JM (by omega);have g:(x++x).size=x.size+x.size:=by simp
   have m:(o++x).size=o.size+x.size:=by simp
   have d:(x.size+x.size)*(k / 2)+x.size*(k % 2)=x.size*k:=by rw[show x.size*k=x.size*(2*(k / 2)+k % 2) by rw[Nat.div_add_mod]];rw[Nat.mul_add,<-Nat.mul_assoc,Nat.mul_two]
   have q:=ae d;clear d l;by_cases hodd:(k:Int) % 2=1
   ·have b:Hid (k % 2=1):=by show k % 2=1;omega
    go_wp2;refine⟨⟨x++x,k / 2,o++x,rfl,by go_num,rfl,by omega,?_⟩,by simp[intOf];omega⟩;show(o++x).size+(x++x).size*(k / 2)<=s.size*n;have:=f.out;have j:=q.out;rw[b.out,Nat.mul_one] at j;rw[g,m];omega
   ·have b:Hid (k % 2=0):=by show k % 2=0;omega
    go_wp2;refine⟨⟨x++x,k / 2,o,rfl,by go_num,rfl,by omega,?_⟩,by simp[intOf];omega⟩;show o.size+(x++x).size*(k / 2)<=s.size*n;have:=f.out;have j:=q.out;rw[b.out,Nat.mul_zero] at j;rw[g];omega
end Go.Proofs.YtkdimgejdocbbaaGreatDoor.Vp
