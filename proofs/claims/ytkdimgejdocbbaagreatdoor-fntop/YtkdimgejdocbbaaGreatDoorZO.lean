import Derived.Test.YtkdimgejdocbbaaGreatDoorZL
import Derived.Laws.BitsAllLaws
set_option maxHeartbeats 2000000
open Go.Addr renaming mk->J
open Go.Value renaming slice->Y,string->U,int->N
open Option renaming none->Z,some->Q
open Go.IntKind renaming i64->I
open Go renaming World->E
open Bool renaming false->D
open Go.Ending renaming returned->QD
namespace Go.Proofs.YtkdimgejdocbbaaGreatDoor.Vp
open RowKit
theorem tN (a b:Nat)(d:a<4611686018427387904)(hb:b<4611686018427387904):∃ x:Nat,bits .xor I (a:Int) (b:Int)=x/\x<4611686018427387904:=by
 have hx:a ^^^ b<2 ^ 62:=Nat.xor_lt_two_pow (by omega) (by omega);refine⟨a ^^^ b,?_,by omega⟩;show IntKind.i64.wrap ((BitVec.ofInt 64 (a:Int) ^^^ BitVec.ofInt 64 (b:Int)).toNat:Int)=_;have e:∀ x:Nat,x<4611686018427387904->(BitVec.ofInt 64 (x:Int)).toNat=x:=fun x h=>by rw[BitVec.toNat_ofInt];omega
 rw[BitVec.toNat_xor,e a d,e b hb,p9];omega
def SlByte (w:E)(R:Nat)(a:Option Addr)(n:Nat):Prop:=n=0∨∃ b off,a=Q (J b off Z)/\b<R/\b<w.heap.size/\∀ i,i<n->∃ u:Nat,u<256/\w.cell? (J b (off+i) Z)=Q (N .u8 u)
theorem SlByte.only {w j:E}{R n:Nat}{a:Option Addr}(h:SlByte w R a n)(g:Only R w j):SlByte j R a n:=by
 rcases h with h | ⟨b,off,e,hb,f,l⟩
 ·exact .inl h
 ·refine .inr ⟨b,off,e,hb,ll f g.size,fun i hi=>?_⟩
  obtain⟨u,k,d⟩:=l i hi;exact⟨u,k,(g.cell b _ f (by omega)).trans d⟩
def Rd (w:E)(R p:Nat):Prop:=∃ a n b,R<w.heap.size/\n<=2000/\w.cell? (J R 0 Z)=Q (Y a n b)/\(w.cell? (J R 1 Z)=Q (N I p)/\w.frozen? (J R 1 Z)=D)/\SlByte w R a n
theorem Rd.lt {w:E}{R p:Nat}(h:Rd w R p):R<w.heap.size:=by obtain⟨_,_,_,h,_⟩:=h;exact h
theorem Rd.below {w g:E}{B R p:Nat}(h:Rd w R p)(hb:Below B w g)(d:w.heap.size<=B):Rd g R p:=by obtain⟨a,n,f,b,i,j,⟨h1,h2⟩,k⟩:=h;refine⟨a,n,f,ll b hb.size,i,(hb.cell (p:=(J R 0 Z)) (ll b d)).trans j,⟨(hb.cell (p:=(J R 1 Z)) (ll b d)).trans h1,(hb.frozen (p:=(J R 1 Z)) (ll b d)).trans h2⟩,?_⟩;exact k.only (Only.of_below (hb.mono d))
theorem Rd.low {w l:E}{B R p:Nat}(h:Rd w R p)(hb:Below B w l)(f:R<B):Rd l R p:=by
 obtain⟨a,n,k,m,o,r,⟨h1,h2⟩,t⟩:=h;refine⟨a,n,k,ll m hb.size,o,(hb.cell (p:=(J R 0 Z)) f).trans r,⟨(hb.cell (p:=(J R 1 Z)) f).trans h1,(hb.frozen (p:=(J R 1 Z)) f).trans h2⟩,?_⟩;rcases t with h | ⟨b,off,e,g,j,s⟩
 ·exact .inl h
 ·refine .inr ⟨b,off,e,g,ll j hb.size,fun i hi=>?_⟩
  obtain⟨u,q,d⟩:=s i hi;exact⟨u,q,(hb.cell (p:=(J b _ Z)) (Nat.lt_trans g f)).trans d⟩
theorem Only.then {R:Nat}{u v w:E}(h:Only R u v)(k:Below u.heap.size v w):Only R u w :=
 ⟨k.os.trans h.os,k.tape.trans h.tape,k.output.trans h.output,j5 h.size k.size,fun i hi d=>(k.block i hi).trans (h.block i hi d),fun b t fz hb=>let ⟨cs1,h1⟩:=h.ty b t fz hb;⟨cs1,(k.block R (aC hb)).trans h1⟩⟩
theorem Rd.step {w:E}{R p:Nat}(h:Rd w R p):Rd (w.setCell (J R 1 Z) (N I ((p:Int)+1))) R (p+1):=by obtain⟨a,n,b,d,i,f,⟨h1,h2⟩,g⟩:=h;refine⟨a,n,b,by simpa using d,i,(sq _ _ _ _ (by simp)).trans f,⟨?_,by simpa using h2⟩,g.only (bZ (Only.refl R w) 1 _)⟩;rw[AI _ _ _ (by rw[h1];rfl)];rfl
theorem zE (R p:Nat)(m:Int)(a:Option Addr)(b:Nat)(w:E)(h0:w.cell? (J R 0 Z)=Q (Y a 0 b))(h1:w.cell? (J R 1 Z)=Q (N I p))(h2:w.frozen? (J R 1 Z)=D)(hp:(p:Int)<=100000)(hm:1<=m):Calls Tryz.prog 57 #[.pointer (Q (J R 0 Z)),N I m] w fun e d=>e=QD (N I 0)/\d=w.setCell (J R 1 Z) (N I ((p:Int)+1)):=by go_enter Tryz.func57,Tryz.ntmps57;go_wp2;go_ret;exact⟨rfl,rfl⟩
theorem Cq (R p:Nat)(m:Int)(b off n f u:Nat)(w:E)(h0:w.cell? (J R 0 Z)=Q (Y (Q (J b off Z)) n f))(h1:w.cell? (J R 1 Z)=Q (N I p))(h2:w.frozen? (J R 1 Z)=D)(hp:(p:Int)<=100000)(hm:1<=m)(hm2:m<=100000)
  (hlt:p<n) (hb:b<R) (hu:u<256) (h:w.cell? (J b (off+p) Z)=Q (N .u8 u)) :
  Calls Tryz.prog 57 #[.pointer (Q (J R 0 Z)),N I m] w fun e i=>∃ z:Int,e=QD (N I z)/\0<=z/\z<m/\i=w.setCell (J R 1 Z) (N I ((p:Int)+1)):=by
 have hc':(w.setCell (J R 1 Z) (N I ((p:Int)+1))).cell? (J b (off+p) Z)=Q (N .u8 u):=(cell_far _ _ _ _ (by simp;omega)).trans h;obtain⟨z,hz,g,d⟩:∃ z:Int,(u:Int).tmod m=z/\0<=z/\z<m:=⟨_,rfl,Int.tmod_nonneg _ (by omega),Int.tmod_lt_of_pos _ (by omega)⟩
 have hm0:¬ m=0:=by omega
 have hq:(decide (m<1) || ((n:Int) == 0))=D:=by simp;omega
 clear h;go_enter Tryz.func57,Tryz.ntmps57;go_wp2;go_ret;exact⟨z,rfl,g,d,rfl⟩
theorem zF (R p:Nat)(m:Int)(b off n k u v:Nat)(w:E)(C:w.cell? (J R 0 Z)=Q (Y (Q (J b off Z)) n k))(h1:w.cell? (J R 1 Z)=Q (N I p))(h2:w.frozen? (J R 1 Z)=D)(hp:(p:Int)<=100000)(hm:1<=m)(hm2:m<=100000)
  (hlt:¬ p<n) (hn1:1<=n) (hn:n<=2000) (hb:b<R) (hu:u<256) (hv:v<256) (l:w.cell? ⟨b,off+p % n,Z⟩=Q (N .u8 u)) (o:w.cell? ⟨b,off+(p*7+3) % n,Z⟩=Q (N .u8 v)) :
  Calls Tryz.prog 57 #[.pointer (Q (J R 0 Z)),N I m] w fun e G=>∃ z:Int,e=QD (N I z)/\0<=z/\z<m/\Below (w.setCell (J R 1 Z) (N I ((p:Int)+1))).heap.size (w.setCell (J R 1 Z) (N I ((p:Int)+1))) G:=by
 obtain⟨i,hi⟩:∃ i,i=p % n:=⟨_,rfl⟩
 obtain⟨j,g⟩:∃ j,j=(p*7+3) % n:=⟨_,rfl⟩
 obtain⟨d,f⟩:∃ d,d=p / n:=⟨_,rfl⟩
 have hi2:i<n:=by rw[hi];exact NE _ (by omega)
 have hj2:j<n:=by rw[g];exact NE _ (by omega)
 have hd2:d<=p:=by rw[f];exact Nat.div_le_self _ _
 have e1:(p:Int).tmod n=i:=by rw[hi];rfl
 have e2:((p:Int)*7+3).tmod n=j:=by rw[g];rfl
 have e3:(p:Int) / n=d:=by rw[f];rfl
 rw[<-hi] at l;rw[<-g] at o;have B:(w.setCell (J R 1 Z) (N I ((p:Int)+1))).cell? (J b (off+i) Z)=Q (N .u8 u):=(cell_far _ _ _ _ (by simp;omega)).trans l;have q:(w.setCell (J R 1 Z) (N I ((p:Int)+1))).cell? (J b (off+j) Z)=Q (N .u8 v):=(cell_far _ _ _ _ (by simp;omega)).trans o;have QO:(w.setCell (J R 1 Z) (N I ((p:Int)+1))).cell? (J R 0 Z)=Q (Y (Q (J b off Z)) n k):=(sq _ _ _ _ (by simp)).trans C;obtain⟨x,t,hx2⟩:∃ x:Nat,(u:Int)*131+v*1117+p*29+d*53=x/\x<1000000000000:=⟨u*131+v*1117+p*29+d*53,by omega,by omega⟩
 obtain⟨y,h,hy2⟩:=tN x (x / 64) (by omega) (by omega);rw[show((x / 64:Nat):Int)=(x:Int) / 64 from rfl] at h;obtain⟨z,hz,s,r⟩:∃ z:Int,(y:Int).tmod m=z/\0<=z/\z<m:=⟨_,rfl,Int.tmod_nonneg _ (by omega),Int.tmod_lt_of_pos _ (by omega)⟩
 have hm0:¬ m=0:=by omega
 have hq:(decide (m<1) || ((n:Int) == 0))=D:=by simp;omega
 have hn0:¬ (n:Int)=0:=by omega
 have hge:(n:Int)<=p:=by omega
 have QQ:=ae t;have H:=ae h;have QP:=ae hz;clear hi g l o t h hz f;go_enter Tryz.func57,Tryz.ntmps57;go_wp2_with fail;go_quiet (fail);have A:=ae (wC (eI (w.setCell (J R 1 Z) (N I ((p:Int)+1))).heap.size (w.setCell (J R 1 Z) (N I ((p:Int)+1)))) nq);rw[QQ.out];clear B q QO;generalize (w.setCell (J R 1 Z) (N I ((p:Int)+1))).drewN nq=W at A ⊢;have h:=H.out;have hz:=QP.out;go_wp2;go_ret;exact⟨z,rfl,s,r,A⟩
theorem aD (R p:Nat)(m:Int)(w:E)(hR:Rd w R p)(A:(p:Int)<=100000)(y:1<=m)(s:m<=100000):Calls Tryz.prog 57 #[.pointer (Q (J R 0 Z)),N I m] w fun e o=>∃ z:Int,e=QD (N I z)/\0<=z/\z<m/\Rd o R (p+1)/\Only R w o:=by
 have hR':=hR;have hst:=hR.step;have j:Only R w (w.setCell (J R 1 Z) (N I ((p:Int)+1))):=bZ (Only.refl R w) 1 _;obtain⟨a,n,g,hl,QP,B,⟨h1,h2⟩,QQ⟩:=hR;by_cases hz:n=0
 ·subst hz
  exact(zE R p m a g w B h1 h2 A y).mono fun e o ⟨i,r⟩=>⟨0,i,by omega,by omega,by rw[r];exact hst,by rw[r];exact j⟩
 ·rcases QQ with h | ⟨b,off,rfl,hb,hbl,t⟩
  ·exact absurd h hz
  ·by_cases q:p<n
   ·obtain⟨u,x,d⟩:=t p q
    exact(Cq R p m b off n g u w B h1 h2 A y s q hb x d).mono fun e o ⟨z,i,l,k,r⟩=>⟨z,i,l,k,by rw[r];exact hst,by rw[r];exact j⟩
   ·obtain⟨u,x,d⟩:=t (p % n) (NE _ (by omega))
    obtain⟨v,G,f⟩:=t ((p*7+3) % n) (NE _ (by omega));exact(zF R p m b off n g u v w B h1 h2 A y s q (by omega) QP hb x G d f).mono fun e o ⟨z,i,l,k,C⟩=>⟨z,i,l,k,hst.below C lr,j.trans (Only.of_below C)⟩
def ByteSl (w:E)(a:Option Addr)(n:Nat):Prop:=n=0∨∃ b off,a=Q (J b off Z)/\b<w.heap.size/\∀ i,i<n->∃ u:Nat,u<256/\w.cell? (J b (off+i) Z)=Q (N .u8 u)
theorem ByteSl.below {w g:E}{B n:Nat}{a:Option Addr}(h:ByteSl w a n)(hb:Below B w g)(k:w.heap.size<=B):ByteSl g a n:=by
 rcases h with h | ⟨b,off,e,f,l⟩
 ·exact .inl h
 ·refine .inr ⟨b,off,e,ll f hb.size,fun i hi=>?_⟩
  obtain⟨u,j,d⟩:=l i hi;exact⟨u,j,(hb.cell (p:=(J b _ Z)) (ll f k)).trans d⟩
theorem rC {w:E}{a:Option Addr}{n k f:Nat}(h:ByteSl w a n)(hk:k<=n)(j:k<=2000)(t:TypeId):Rd (w.alloc (.cells #[Y a k f,N I 0] t)) w.heap.size 0:=by
 refine⟨a,k,f,by simp,j,by simp,⟨by simp,by simp⟩,?_⟩;rcases h with h | ⟨b,off,e,g,m⟩
 ·exact .inl (by omega)
 ·refine .inr ⟨b,off,e,g,by simp;omega,fun i hi=>?_⟩
  obtain⟨u,l,d⟩:=m i (by omega);exact⟨u,l,(((Qs w).alloc lr _).cell (p:=(J b _ Z)) g).trans d⟩
theorem vT (b off n d:Nat)(w:E)(hn:(n:Int)<=1048576)(hc:n<=d)(f:ByteSl w (Q (J b off Z)) n):Calls Tryz.prog 54 #[Y (Q (J b off Z)) n d] w fun e g=>∃ R,e=QD (.pointer (Q (J R 0 Z)))/\w.heap.size<=R/\Rd g R 0/\Below w.heap.size w g:=by
 have i:=ae f;clear f;by_cases h:(2000:Int)<n;all_goals
  go_enter Tryz.func54,Tryz.ntmps54;go_wp2;go_ret;first
   | exact⟨_,rfl,j6 _,rC i (k:=2000) (by omega) (by omega) _,br.alloc lr _⟩
   | exact⟨_,rfl,j6 _,rC i (k:=n) (by omega) (by omega) _,br.alloc lr _⟩
theorem vU (a:Option Addr)(b:Nat)(w:E):Calls Tryz.prog 54 #[Y a 0 b] w fun e d=>∃ R,e=QD (.pointer (Q (J R 0 Z)))/\w.heap.size<=R/\Rd d R 0/\Below w.heap.size w d:=by have f:Hid (ByteSl w a 0):=.inl rfl;go_enter Tryz.func54,Tryz.ntmps54;go_wp2;go_ret;exact⟨_,rfl,j6 _,rC f (k:=0) (by omega) (by omega) _,br.alloc lr _⟩
theorem kg (a:Option Addr)(n d:Nat)(w:E)(i:(n:Int)<=1048576)(j:n<=d)(g:ByteSl w a n):Calls Tryz.prog 54 #[Y a n d] w fun e h=>∃ R,e=QD (.pointer (Q (J R 0 Z)))/\w.heap.size<=R/\Rd h R 0/\Below w.heap.size w h:=by
 have f:=g;rcases g with rfl | ⟨b,off,rfl,_,_⟩
 ·exact vU a d w
 ·exact vT b off n d w i j f
theorem fw (s:ByteArray)(n:Nat)(w:E)(h:s.size*n<=4000)(u:(n:Int)<=4000):Calls Tryz.prog 60 #[U s,N I n] w fun e y=>∃ t:ByteArray,e=QD (U t)/\t.size<=s.size*n/\y=w:=by
 have H:=ae h;clear h;go_enter Tryz.func60,Tryz.ntmps60;go_wp2;go_loop [0,1,5] (fun sv j r=>∃ (x:ByteArray) (k:Nat) (o:ByteArray),sv=U x/\j=N I k/\r=U o/\(k:Int)<=4000/\Hid (o.size+x.size*k<=s.size*n)) (fun _ j _=>(intOf j).toNat);case atStart=>exact⟨s,n,⟨#[]⟩,rfl,rfl,rfl,u,by show 0+s.size*n<=_;omega⟩
 case round =>
  obtain⟨x,k,o,rfl,rfl,rfl,hk,d⟩:=hrel;by_cases hz:(k:Int)=0
  ·obtain rfl:k=0:=by omega
   have m:o.size<=s.size*n:=by have:=d.out;omega
   have f:=ae m;clear m;go_wp2;go_ret;exact⟨o,rfl,f,rfl⟩
  ·have hpos:0<(k:Int):=by omega
   have p:x.size<=x.size*k:=Nat.le_mul_of_pos_right _ (by omega);have hx2:(x.size:Int)<=4000:=by have:=d.out;have:=H.out;omega
   have ho2:(o.size:Int)<=4000:=by have:=d.out;have:=H.out;omega
   have q5:(k:Int).tmod 2=(k:Int) % 2:=JL (by omega);have g:(x++x).size=x.size+x.size:=by simp
   have l:(o++x).size=o.size+x.size:=by simp
   have b:(x.size+x.size)*(k / 2)+x.size*(k % 2)=x.size*k:=by rw[show x.size*k=x.size*(2*(k / 2)+k % 2) by rw[Nat.div_add_mod]];rw[Nat.mul_add,<-Nat.mul_assoc,Nat.mul_two]
   have q:=ae b;clear b p;by_cases hodd:(k:Int) % 2=1
   ·have f:Hid (k % 2=1):=by show k % 2=1;omega
    go_wp2;refine⟨⟨x++x,k / 2,o++x,rfl,by go_num,rfl,by omega,?_⟩,by simp[intOf];omega⟩;show(o++x).size+(x++x).size*(k / 2)<=s.size*n;have:=d.out;have i:=q.out;rw[f.out,Nat.mul_one] at i;rw[g,l];omega
   ·have f:Hid (k % 2=0):=by show k % 2=0;omega
    go_wp2;refine⟨⟨x++x,k / 2,o,rfl,by go_num,rfl,by omega,?_⟩,by simp[intOf];omega⟩;show o.size+(x++x).size*(k / 2)<=s.size*n;have:=d.out;have i:=q.out;rw[f.out,Nat.mul_zero] at i;rw[g];omega
end Go.Proofs.YtkdimgejdocbbaaGreatDoor.Vp
