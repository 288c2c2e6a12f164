import Derived.Test.YtpmnbjkjpnclaaaGreatDoorMM
import Derived.Laws.BitsAllLaws
set_option maxHeartbeats 2000000
open Go renaming Addr.mk->N,Value.slice->Y,Value.string->U,Value.int->Q,IntKind.i64->I,World->M,Ending.returned->ZD,World.cell?->J,Proofs.Tryz.prog->Pg
open Option renaming none->Z,some->T
open Bool renaming false->ZA
namespace Go.Proofs.YtpmnbjkjpnclaaaGreatDoor.Vp
open Tryz RowKit
variable {w l:M}{R p n:Nat}{a:Option Addr}
theorem tT (a b:Nat)(f:a<4611686018427387904)(hb:b<4611686018427387904):∃x:Nat,bits .xor I (a:Int) (b:Int)=x/\x<4611686018427387904:=by
 have hx:a ^^^ b<2 ^ 62:=Nat.xor_lt_two_pow (by omega) (by omega);refine⟨a ^^^ b,?_,by omega⟩;show IntKind.i64.wrap ((BitVec.ofInt 64 (a:Int) ^^^ BitVec.ofInt 64 (b:Int)).toNat:Int)=_;have e:∀x:Nat,x<4611686018427387904->(BitVec.ofInt 64 (x:Int)).toNat=x:=λx h=>by rw[BitVec.toNat_ofInt];omega
 rw[BitVec.toNat_xor,e a f,e b hb,AI];omega
def SlByte (w:M)(R:Nat)(a:Option Addr)(n:Nat):Prop:=n=0∨∃b off,a=T (N b off Z)/\b<R/\b<w.heap.size/\∀i,i<n->∃u:Nat,u<256/\J w (N b (off+i) Z)=T (Q .u8 u)
theorem SlByte.ac (h:SlByte w R a n)(g:Only R w l):SlByte l R a n:=by
 rcases h with h|⟨b,off,e,hb,j,o⟩
 {exact .inl h};{refine .inr ⟨b,off,e,hb,lj j g.size,λi hi=>?_⟩;obtain⟨u,m,f⟩:=o i hi;exact⟨u,m,(g.cell b _ j (by omega)).trans f⟩}
def Rd (w:M)(R p:Nat):Prop:=∃a n cap,R<w.heap.size/\n<=2000/\J w (N R 0 Z)=T (Y a n cap)/\(J w (N R 1 Z)=T (Q I p)/\w.frozen? (N R 1 Z)=ZA)/\SlByte w R a n
theorem Rd.lt (h:Rd w R p):R<w.heap.size:=by obtain⟨_,_,_,h,_⟩:=h;exact h
theorem Rd.aa{g:M}{B:Nat}(h:Rd w R p)(hb:Below B w g)(b:w.heap.size<=B):Rd g R p:=by obtain⟨a,n,cap,f,hn,j,⟨h1,h2⟩,i⟩:=h;refine⟨a,n,cap,lj f hb.size,hn,(hb.cell (p:=(N R 0 Z)) (lj f b)).trans j,⟨(hb.cell (p:=(N R 1 Z)) (lj f b)).trans h1,(hb.frozen (p:=(N R 1 Z)) (lj f b)).trans h2⟩,?_⟩;exact i.ac (Only.q (hb.mono b))
theorem Rd.low{B:Nat}(h:Rd w R p)(hb:Below B w l)(g:R<B):Rd l R p:=by
 obtain⟨a,n,cap,s,hn,r,⟨h1,h2⟩,q⟩:=h;refine⟨a,n,cap,lj s hb.size,hn,(hb.cell (p:=(N R 0 Z)) g).trans r,⟨(hb.cell (p:=(N R 1 Z)) g).trans h1,(hb.frozen (p:=(N R 1 Z)) g).trans h2⟩,?_⟩;rcases q with h|⟨b,off,e,j,m,t⟩
 {exact .inl h};{refine .inr ⟨b,off,e,j,lj m hb.size,λi hi=>?_⟩;obtain⟨u,o,f⟩:=t i hi;exact⟨u,o,(hb.cell (p:=(N b _ Z)) (Nat.lt_trans j g)).trans f⟩}
theorem Only.then{u v:M}(h:Only R u v)(k:Below u.heap.size v w):Only R u w :=
 ⟨k.os.trans h.os,k.tape.trans h.tape,k.output.trans h.output,nD h.size k.size,λi hi b=>(k.block i hi).trans (h.block i hi b),λf t fz hb=>let ⟨cs1,h1⟩:=h.ty f t fz hb;⟨cs1,(k.block R (ar hb)).trans h1⟩⟩
theorem Rd.step (h:Rd w R p):Rd (w.setCell (N R 1 Z) (Q I ((p:Int)+1))) R (p+1):=by obtain⟨a,n,cap,b,hn,g,⟨h1,h2⟩,f⟩:=h;refine⟨a,n,cap,by simpa using b,hn,(sq _ _ _ _ (by simp)).trans g,⟨?_,by simpa using h2⟩,f.ac (bO (Only.refl R w) 1 _)⟩;rw[DN _ _ _ (by rw[h1];rfl)];rfl
theorem zy (R p:Nat)(m:Int)(a:Option Addr)(cap:Nat)(w:M)(h0:J w (N R 0 Z)=T (Y a 0 cap))(h1:J w (N R 1 Z)=T (Q I p))(h2:w.frozen? (N R 1 Z)=ZA)(hp:(p:Int)<=100000)(hm:1<=m):Calls Pg 40 #[.pointer (T (N R 0 Z)),Q I m] w λe b=>e=ZD (Q I 0)/\b=w.setCell (N R 1 Z) (Q I ((p:Int)+1)):=by go_enter func40,ntmps40;go_wp2;go_ret;exact⟨rfl,rfl⟩
theorem Cz (R p:Nat)(m:Int)(b off n cap u:Nat)(w:M)(h0:J w (N R 0 Z)=T (Y (T (N b off Z)) n cap))(h1:J w (N R 1 Z)=T (Q I p))(h2:w.frozen? (N R 1 Z)=ZA)(hp:(p:Int)<=100000)(hm:1<=m)(hm2:m<=1000000)
  (hlt:p<n) (hb:b<R) (hu:u<256) (h:J w (N b (off+p) Z)=T (Q .u8 u)) :
  Calls Pg 40 #[.pointer (T (N R 0 Z)),Q I m] w λe i=>∃z:Int,e=ZD (Q I z)/\0<=z/\z<m/\i=w.setCell (N R 1 Z) (Q I ((p:Int)+1)):=by
 have hc':(w.setCell (N R 1 Z) (Q I ((p:Int)+1))).cell? (N b (off+p) Z)=T (Q .u8 u):=(cell_far _ _ _ _ (by simp;omega)).trans h;obtain⟨z,hz,g,f⟩:∃z:Int,(u:Int).tmod m=z/\0<=z/\z<m:=⟨_,rfl,Int.tmod_nonneg _ (by omega),Int.tmod_lt_of_pos _ (by omega)⟩
 have hm0:¬ m=0:=by omega
 have hq:(decide (m<1) || ((n:Int) == 0))=ZA:=by simp;omega
 clear h;go_enter func40,ntmps40;go_wp2;go_ret;exact⟨z,rfl,g,f,rfl⟩
theorem zB (R p:Nat)(m:Int)(b off n cap u v:Nat)(w:M)(E:J w (N R 0 Z)=T (Y (T (N b off Z)) n cap))(h1:J w (N R 1 Z)=T (Q I p))(h2:w.frozen? (N R 1 Z)=ZA)(hp:(p:Int)<=100000)(hm:1<=m)(hm2:m<=1000000)
  (hlt:¬ p<n) (hn1:1<=n) (hn:n<=2000) (hb:b<R) (hu:u<256) (hv:v<256) (l:w.cell? ⟨b,off+p % n,Z⟩=T (Q .u8 u)) (o:w.cell? ⟨b,off+(p*7+3) % n,Z⟩=T (Q .u8 v)) :
  Calls Pg 40 #[.pointer (T (N R 0 Z)),Q I m] w λe G=>∃z:Int,e=ZD (Q I z)/\0<=z/\z<m/\Below (w.setCell (N R 1 Z) (Q I ((p:Int)+1))).heap.size (w.setCell (N R 1 Z) (Q I ((p:Int)+1))) G:=by
 obtain⟨i,hi⟩:∃i,i=p % n:=⟨_,rfl⟩
 obtain⟨j,h⟩:∃j,j=(p*7+3) % n:=⟨_,rfl⟩
 obtain⟨d,f⟩:∃d,d=p / n:=⟨_,rfl⟩
 have hi2:i<n:=by rw[hi];exact N9 _ (by omega)
 have hj2:j<n:=by rw[h];exact N9 _ (by omega)
 have hd2:d<=p:=by rw[f];exact Nat.div_le_self _ _
 have e1:(p:Int).tmod n=i:=by rw[hi];rfl
 have e2:((p:Int)*7+3).tmod n=j:=by rw[h];rfl
 have e3:(p:Int) / n=d:=by rw[f];rfl
 rw[<-hi] at l;rw[<-h] at o;have t:(w.setCell (N R 1 Z) (Q I ((p:Int)+1))).cell? (N b (off+i) Z)=T (Q .u8 u):=(cell_far _ _ _ _ (by simp;omega)).trans l;have q:(w.setCell (N R 1 Z) (Q I ((p:Int)+1))).cell? (N b (off+j) Z)=T (Q .u8 v):=(cell_far _ _ _ _ (by simp;omega)).trans o;have C:(w.setCell (N R 1 Z) (Q I ((p:Int)+1))).cell? (N R 0 Z)=T (Y (T (N b off Z)) n cap):=(sq _ _ _ _ (by simp)).trans E;obtain⟨x,B,hx2⟩:∃x:Nat,(u:Int)*131+v*1117+p*29+d*53=x/\x<1000000000000:=⟨u*131+v*1117+p*29+d*53,by omega,by omega⟩
 obtain⟨y,g,hy2⟩:=tT x (x / 64) (by omega) (by omega);rw[show((x / 64:Nat):Int)=(x:Int) / 64 from rfl] at g;obtain⟨z,hz,A,r⟩:∃z:Int,(y:Int).tmod m=z/\0<=z/\z<m:=⟨_,rfl,Int.tmod_nonneg _ (by omega),Int.tmod_lt_of_pos _ (by omega)⟩
 have hm0:¬ m=0:=by omega
 have hq:(decide (m<1) || ((n:Int) == 0))=ZA:=by simp;omega
 have hn0:¬ (n:Int)=0:=by omega
 have hge:(n:Int)<=p:=by omega
 have H:=ae B;have D:=ae g;have ZP:=ae hz;clear hi h l o B g hz f;go_enter func40,ntmps40;go_wp2_with fail;go_quiet (fail);have s:=ae (E9 (cM (w.setCell (N R 1 Z) (Q I ((p:Int)+1))).heap.size (w.setCell (N R 1 Z) (Q I ((p:Int)+1)))) nq);rw[H.out];clear t q C;generalize (w.setCell (N R 1 Z) (Q I ((p:Int)+1))).drewN nq=W at s ⊢;have g:=D.out;have hz:=ZP.out;go_wp2;go_ret;exact⟨z,rfl,A,r,s⟩
theorem aw (R p:Nat)(m:Int)(w:M)(hR:Rd w R p)(B:(p:Int)<=100000)(C:1<=m)(t:m<=1000000):Calls Pg 40 #[.pointer (T (N R 0 Z)),Q I m] w λe r=>∃z:Int,e=ZD (Q I z)/\0<=z/\z<m/\Rd r R (p+1)/\Only R w r:=by
 have hR':=hR;have hst:=hR.step;have o:Only R w (w.setCell (N R 1 Z) (Q I ((p:Int)+1))):=bO (Only.refl R w) 1 _;obtain⟨a,n,cap,hl,hn,x,⟨h1,h2⟩,G⟩:=hR;by_cases hz:n=0;{subst hz;exact(zy R p m a cap w x h1 h2 B C).mono λe r ⟨j,g⟩=>⟨0,j,by omega,by omega,by rw[g];exact hst,by rw[g];exact o⟩}
 ·rcases G with h|⟨b,off,rfl,hb,hbl,y⟩
  {exact absurd h hz};{by_cases l:p<n;{obtain⟨u,A,f⟩:=y p l;exact(Cz R p m b off n cap u w x h1 h2 B C t l hb A f).mono λe r ⟨z,j,q,i,g⟩=>⟨z,j,q,i,by rw[g];exact hst,by rw[g];exact o⟩};{obtain⟨u,A,f⟩:=y (p % n) (N9 _ (by omega));obtain⟨v,E,s⟩:=y ((p*7+3) % n) (N9 _ (by omega));exact(zB R p m b off n cap u v w x h1 h2 B C t l (by omega) hn hb A E f s).mono λe r ⟨z,j,q,i,D⟩=>⟨z,j,q,i,hst.aa D ly,o.trans (Only.q D)⟩}}
def ByteSl (w:M)(a:Option Addr)(n:Nat):Prop:=n=0∨∃b off,a=T (N b off Z)/\b<w.heap.size/\∀i,i<n->∃u:Nat,u<256/\J w (N b (off+i) Z)=T (Q .u8 u)
theorem ByteSl.aa{j:M}{B:Nat}(h:ByteSl w a n)(hb:Below B w j)(m:w.heap.size<=B):ByteSl j a n:=by
 rcases h with h|⟨b,off,e,g,o⟩
 {exact .inl h};{refine .inr ⟨b,off,e,lj g hb.size,λi hi=>?_⟩;obtain⟨u,l,f⟩:=o i hi;exact⟨u,l,(hb.cell (p:=(N b _ Z)) (lj g m)).trans f⟩}
theorem rz{k cap:Nat}(h:ByteSl w a n)(hk:k<=n)(g:k<=2000)(t:TypeId):Rd (w.alloc (.cells #[Y a k cap,Q I 0] t)) w.heap.size 0:=by
 refine⟨a,k,cap,by simp,g,by simp,⟨by simp,by simp⟩,?_⟩;rcases h with h|⟨b,off,e,j,m⟩
 {exact .inl (by omega)};{refine .inr ⟨b,off,e,j,by simp;omega,λi hi=>?_⟩;obtain⟨u,l,f⟩:=m i (by omega);exact⟨u,l,(((BS w).alloc ly _).cell (p:=(N b _ Z)) j).trans f⟩}
theorem vM (b off n cap:Nat)(w:M)(hn:(n:Int)<=1048576)(hc:n<=cap)(i:ByteSl w (T (N b off Z)) n):Calls Pg 38 #[Y (T (N b off Z)) n cap] w λe g=>∃R,e=ZD (.pointer (T (N R 0 Z)))/\w.heap.size<=R/\Rd g R 0/\Below w.heap.size w g:=by
 have f:=ae i;clear i;by_cases h:(2000:Int)<n;all_goals
  go_enter func38,ntmps38;go_wp2;go_ret;first
   |exact⟨_,rfl,nX _,rz f (k:=2000) (by omega) (by omega) _,br.alloc ly _⟩
   |exact⟨_,rfl,nX _,rz f (k:=n) (by omega) (by omega) _,br.alloc ly _⟩
theorem vN (a:Option Addr)(cap:Nat)(w:M):Calls Pg 38 #[Y a 0 cap] w λe b=>∃R,e=ZD (.pointer (T (N R 0 Z)))/\w.heap.size<=R/\Rd b R 0/\Below w.heap.size w b:=by have f:Hid (ByteSl w a 0):=.inl rfl;go_enter func38,ntmps38;go_wp2;go_ret;exact⟨_,rfl,nX _,rz f (k:=0) (by omega) (by omega) _,br.alloc ly _⟩
theorem vO (a:Option Addr)(n cap:Nat)(w:M)(hn:(n:Int)<=1048576)(i:n<=cap)(h:ByteSl w a n):Calls Pg 38 #[Y a n cap] w λe g=>∃R,e=ZD (.pointer (T (N R 0 Z)))/\w.heap.size<=R/\Rd g R 0/\Below w.heap.size w g:=by
 have f:=h;rcases h with rfl|⟨b,off,rfl,_,_⟩
 {exact vN a cap w};{exact vM b off n cap w hn i f}
theorem ej (s:ByteArray)(n:Nat)(w:M)(h:s.size*n<=4000)(hn:(n:Int)<=4000):Calls Pg 74 #[U s,Q I n] w λe y=>∃t:ByteArray,e=ZD (U t)/\t.size<=s.size*n/\y=w:=by
 have H:=ae h;clear h;go_enter func74,ntmps74;go_wp2;go_loop [0,1,5] (λsv j u=>∃(x:ByteArray) (k:Nat) (o:ByteArray),sv=U x/\j=Q I k/\u=U o/\(k:Int)<=4000/\Hid (o.size+x.size*k<=s.size*n)) (λ_ j _=>(intOf j).toNat);case atStart=>exact⟨s,n,⟨#[]⟩,rfl,rfl,rfl,hn,by show 0+s.size*n<=_;omega⟩
 case round =>
  obtain⟨x,k,o,rfl,rfl,rfl,hk,f⟩:=hrel;by_cases hz:(k:Int)=0
  ·obtain rfl:k=0:=by omega
   have q:o.size<=s.size*n:=by have:=f.out;omega
   have g:=ae q;clear q;go_wp2;go_ret;exact⟨o,rfl,g,rfl⟩
  ·have hpos:0<(k:Int):=by omega
   have r:x.size<=x.size*k:=Nat.le_mul_of_pos_right _ (by omega);have hx2:(x.size:Int)<=4000:=by have:=f.out;have:=H.out;omega
   have ho2:(o.size:Int)<=4000:=by have:=f.out;have:=H.out;omega
   have q5:(k:Int).tmod 2=(k:Int) % 2:=MO (by omega);have i:(x++x).size=x.size+x.size:=by simp
   have p:(o++x).size=o.size+x.size:=by simp
   have b:(x.size+x.size)*(k / 2)+x.size*(k % 2)=x.size*k:=by rw[show x.size*k=x.size*(2*(k / 2)+k % 2) by rw[Nat.div_add_mod]];rw[Nat.mul_add,<-Nat.mul_assoc,Nat.mul_two]
   have m:=ae b;clear b r;by_cases hodd:(k:Int) % 2=1
   ·have g:Hid (k % 2=1):=by show k % 2=1;omega
    go_wp2;refine⟨⟨x++x,k / 2,o++x,rfl,by go_num,rfl,by omega,?_⟩,by simp[intOf];omega⟩;show(o++x).size+(x++x).size*(k / 2)<=s.size*n;have:=f.out;have l:=m.out;rw[g.out,Nat.mul_one] at l;rw[i,p];omega
   ·have g:Hid (k % 2=0):=by show k % 2=0;omega
    go_wp2;refine⟨⟨x++x,k / 2,o,rfl,by go_num,rfl,by omega,?_⟩,by simp[intOf];omega⟩;show o.size+(x++x).size*(k / 2)<=s.size*n;have:=f.out;have l:=m.out;rw[g.out,Nat.mul_zero] at l;rw[i];omega
