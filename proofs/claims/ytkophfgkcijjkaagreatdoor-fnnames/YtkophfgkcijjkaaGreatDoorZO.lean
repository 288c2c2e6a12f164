import Derived.Test.YtkophfgkcijjkaaGreatDoorZL
import Derived.Laws.BitsAllLaws
set_option maxHeartbeats 2000000
namespace Go.Proofs.YtkophfgkcijjkaaGreatDoor.Vp
open RowKit
theorem qG (a b:Nat)(c:a<4611686018427387904)(hb:b<4611686018427387904):∃ x:Nat,bits .xor .i64 (a:Int) (b:Int)=x/\x<4611686018427387904:=by
 have hx:a ^^^ b<2 ^ 62:=Nat.xor_lt_two_pow (by omega) (by omega);refine⟨a ^^^ b,?_,by omega⟩;show IntKind.i64.wrap ((BitVec.ofInt 64 (a:Int) ^^^ BitVec.ofInt 64 (b:Int)).toNat:Int)=_;have e:∀ x:Nat,x<4611686018427387904->(BitVec.ofInt 64 (x:Int)).toNat=x:=fun x h=>by rw[BitVec.toNat_ofInt];omega
 rw[BitVec.toNat_xor,e a c,e b hb,IntKind.wrap_i64];omega
def SlByte (w:World)(R:Nat)(a:Option Addr)(n:Nat):Prop:=n=0∨∃ b off,a=some ⟨b,off,none⟩/\b<R/\b<w.heap.size/\∀ i,i<n->∃ u:Nat,u<256/\w.cell? ⟨b,off+i,none⟩=some (.int .u8 u)
theorem SlByte.only {w f:World}{R n:Nat}{a:Option Addr}(h:SlByte w R a n)(d:Only R w f):SlByte f R a n:=by
 rcases h with h | ⟨b,off,e,hb,g,j⟩
 ·exact .inl h
 ·refine .inr ⟨b,off,e,hb,lj g d.size,fun i hi=>?_⟩
  obtain⟨u,k,c⟩:=j i hi;exact⟨u,k,(d.cell b _ g (by omega)).trans c⟩
def Rd (w:World)(R p:Nat):Prop:=∃ a n cap,R<w.heap.size/\n<=2000/\w.cell? ⟨R,0,none⟩=some (.slice a n cap)/\(w.cell? ⟨R,1,none⟩=some (.int .i64 p)/\w.frozen? ⟨R,1,none⟩=false)/\SlByte w R a n
theorem Rd.lt {w:World}{R p:Nat}(h:Rd w R p):R<w.heap.size:=by obtain⟨_,_,_,h,_⟩:=h;exact h
theorem Rd.below {w d:World}{B R p:Nat}(h:Rd w R p)(hb:Below B w d)(b:w.heap.size<=B):Rd d R p:=by obtain⟨a,n,cap,c,hn,i,⟨j,g⟩,f⟩:=h;refine⟨a,n,cap,lj c hb.size,hn,(hb.cell (p:=⟨R,0,none⟩) (lj c b)).trans i,⟨(hb.cell (p:=⟨R,1,none⟩) (lj c b)).trans j,(hb.frozen (p:=⟨R,1,none⟩) (lj c b)).trans g⟩,?_⟩;exact f.only (Only.of_below (hb.mono b))
theorem Rd.low {w g:World}{B R p:Nat}(h:Rd w R p)(hb:Below B w g)(c:R<B):Rd g R p:=by
 obtain⟨a,n,cap,s,hn,o,⟨q,m⟩,k⟩:=h;refine⟨a,n,cap,lj s hb.size,hn,(hb.cell (p:=⟨R,0,none⟩) c).trans o,⟨(hb.cell (p:=⟨R,1,none⟩) c).trans q,(hb.frozen (p:=⟨R,1,none⟩) c).trans m⟩,?_⟩;rcases k with h | ⟨b,off,e,f,j,l⟩
 ·exact .inl h
 ·refine .inr ⟨b,off,e,f,lj j hb.size,fun i hi=>?_⟩
  obtain⟨u,r,d⟩:=l i hi;exact⟨u,r,(hb.cell (p:=⟨b,_,none⟩) (Nat.lt_trans f c)).trans d⟩
theorem Only.then {R:Nat}{u v w:World}(h:Only R u v)(k:Below u.heap.size v w):Only R u w :=
 ⟨k.os.trans h.os,k.tape.trans h.tape,k.output.trans h.output,Nat.le_trans h.size k.size,fun i hi c=>(k.block i hi).trans (h.block i hi c),fun b t fz hb=>let ⟨cs1,h1⟩:=h.ty b t fz hb;⟨cs1,(k.block R (au hb)).trans h1⟩⟩
theorem Rd.step {w:World}{R p:Nat}(h:Rd w R p):Rd (w.setCell ⟨R,1,none⟩ (.int .i64 ((p:Int)+1))) R (p+1):=by obtain⟨a,n,cap,f,hn,c,⟨d,g⟩,b⟩:=h;refine⟨a,n,cap,by simpa using f,hn,(sq _ _ _ _ (by simp)).trans c,⟨?_,by simpa using g⟩,b.only (fG (Only.refl R w) 1 _)⟩;rw[World.cell?_setCell_same' _ _ _ (by rw[d];rfl)];rfl
theorem vs (R p:Nat)(m:Int)(a:Option Addr)(cap:Nat)(w:World)(h0:w.cell? ⟨R,0,none⟩=some (.slice a 0 cap))(h1:w.cell? ⟨R,1,none⟩=some (.int .i64 p))(h2:w.frozen? ⟨R,1,none⟩=false)(hp:(p:Int)<=100000)(hm:1<=m):Calls Tryz.prog 51 #[.pointer (some ⟨R,0,none⟩),.int .i64 m] w fun e b=>e=.returned (.int .i64 0)/\b=w.setCell ⟨R,1,none⟩ (.int .i64 ((p:Int)+1)):=by go_enter Tryz.func51,Tryz.ntmps51;go_wp2;go_ret;exact⟨rfl,rfl⟩
theorem xF (R p:Nat)(m:Int)(b off n cap u:Nat)(w:World)(h0:w.cell? ⟨R,0,none⟩=some (.slice (some ⟨b,off,none⟩) n cap))(h1:w.cell? ⟨R,1,none⟩=some (.int .i64 p))(h2:w.frozen? ⟨R,1,none⟩=false)(hp:(p:Int)<=100000)(hm:1<=m)(hm2:m<=100000)
  (hlt:p<n) (hb:b<R) (hu:u<256) (c:w.cell? ⟨b,off+p,none⟩=some (.int .u8 u)) :
  Calls Tryz.prog 51 #[.pointer (some ⟨R,0,none⟩),.int .i64 m] w fun e g=>∃ z:Int,e=.returned (.int .i64 z)/\0<=z/\z<m/\g=w.setCell ⟨R,1,none⟩ (.int .i64 ((p:Int)+1)):=by
 have hc':(w.setCell ⟨R,1,none⟩ (.int .i64 ((p:Int)+1))).cell? ⟨b,off+p,none⟩=some (.int .u8 u):=(cell_far _ _ _ _ (by simp;omega)).trans c;obtain⟨z,hz,f,d⟩:∃ z:Int,(u:Int).tmod m=z/\0<=z/\z<m:=⟨_,rfl,Int.tmod_nonneg _ (by omega),Int.tmod_lt_of_pos _ (by omega)⟩
 have hm0:¬ m=0:=by omega
 have hq:(decide (m<1) || ((n:Int) == 0))=false:=by simp;omega
 clear c;go_enter Tryz.func51,Tryz.ntmps51;go_wp2;go_ret;exact⟨z,rfl,f,d,rfl⟩
theorem vt (R p:Nat)(m:Int)(b off n cap u v:Nat)(w:World)(D:w.cell? ⟨R,0,none⟩=some (.slice (some ⟨b,off,none⟩) n cap))(h1:w.cell? ⟨R,1,none⟩=some (.int .i64 p))(h2:w.frozen? ⟨R,1,none⟩=false)(hp:(p:Int)<=100000)(hm:1<=m)(hm2:m<=100000)
  (hlt:¬ p<n) (hn1:1<=n) (hn:n<=2000) (hb:b<R) (hu:u<256) (hv:v<256) (k:w.cell? ⟨b,off+p % n,none⟩=some (.int .u8 u)) (h:w.cell? ⟨b,off+(p*7+3) % n,none⟩=some (.int .u8 v)) :
  Calls Tryz.prog 51 #[.pointer (some ⟨R,0,none⟩),.int .i64 m] w fun e C=>∃ z:Int,e=.returned (.int .i64 z)/\0<=z/\z<m/\Below (w.setCell ⟨R,1,none⟩ (.int .i64 ((p:Int)+1))).heap.size (w.setCell ⟨R,1,none⟩ (.int .i64 ((p:Int)+1))) C:=by
 obtain⟨i,hi⟩:∃ i,i=p % n:=⟨_,rfl⟩
 obtain⟨j,g⟩:∃ j,j=(p*7+3) % n:=⟨_,rfl⟩
 obtain⟨d,c⟩:∃ d,d=p / n:=⟨_,rfl⟩
 have hi2:i<n:=by rw[hi];exact Nat.mod_lt _ (by omega)
 have hj2:j<n:=by rw[g];exact Nat.mod_lt _ (by omega)
 have hd2:d<=p:=by rw[c];exact Nat.div_le_self _ _
 have e1:(p:Int).tmod n=i:=by rw[hi];rfl
 have e2:((p:Int)*7+3).tmod n=j:=by rw[g];rfl
 have e3:(p:Int) / n=d:=by rw[c];rfl
 rw[<-hi] at k;rw[<-g] at h;have t:(w.setCell ⟨R,1,none⟩ (.int .i64 ((p:Int)+1))).cell? ⟨b,off+i,none⟩=some (.int .u8 u):=(cell_far _ _ _ _ (by simp;omega)).trans k;have l:(w.setCell ⟨R,1,none⟩ (.int .i64 ((p:Int)+1))).cell? ⟨b,off+j,none⟩=some (.int .u8 v):=(cell_far _ _ _ _ (by simp;omega)).trans h;have G:(w.setCell ⟨R,1,none⟩ (.int .i64 ((p:Int)+1))).cell? ⟨R,0,none⟩=some (.slice (some ⟨b,off,none⟩) n cap):=(sq _ _ _ _ (by simp)).trans D;obtain⟨x,o,hx2⟩:∃ x:Nat,(u:Int)*131+v*1117+p*29+d*53=x/\x<1000000000000:=⟨u*131+v*1117+p*29+d*53,by omega,by omega⟩
 obtain⟨y,f,hy2⟩:=qG x (x / 64) (by omega) (by omega);rw[show((x / 64:Nat):Int)=(x:Int) / 64 from rfl] at f;obtain⟨z,hz,s,r⟩:∃ z:Int,(y:Int).tmod m=z/\0<=z/\z<m:=⟨_,rfl,Int.tmod_nonneg _ (by omega),Int.tmod_lt_of_pos _ (by omega)⟩
 have hm0:¬ m=0:=by omega
 have hq:(decide (m<1) || ((n:Int) == 0))=false:=by simp;omega
 have hn0:¬ (n:Int)=0:=by omega
 have hge:(n:Int)<=p:=by omega
 have B:=ae o;have A:=ae f;have E:=ae hz;clear hi g k h o f hz c;go_enter Tryz.func51,Tryz.ntmps51;go_wp2_with fail;go_quiet (fail);have q:=ae (below_drewN (Below.refl (w.setCell ⟨R,1,none⟩ (.int .i64 ((p:Int)+1))).heap.size (w.setCell ⟨R,1,none⟩ (.int .i64 ((p:Int)+1)))) nq);rw[B.out];clear t l G;generalize (w.setCell ⟨R,1,none⟩ (.int .i64 ((p:Int)+1))).drewN nq=W at q ⊢;have f:=A.out;have hz:=E.out;go_wp2;go_ret;exact⟨z,rfl,s,r,q.out⟩
theorem aA (R p:Nat)(m:Int)(w:World)(hR:Rd w R p)(s:(p:Int)<=100000)(r:1<=m)(q:m<=100000):Calls Tryz.prog 51 #[.pointer (some ⟨R,0,none⟩),.int .i64 m] w fun e f=>∃ z:Int,e=.returned (.int .i64 z)/\0<=z/\z<m/\Rd f R (p+1)/\Only R w f:=by
 have hR':=hR;have hst:=hR.step;have g:Only R w (w.setCell ⟨R,1,none⟩ (.int .i64 ((p:Int)+1))):=fG (Only.refl R w) 1 _;obtain⟨a,n,cap,hl,hn,t,⟨x,A⟩,D⟩:=hR;by_cases hz:n=0
 ·subst hz
  exact(vs R p m a cap w t x A s r).mono fun e f ⟨d,j⟩=>⟨0,d,by omega,by omega,by rw[j];exact hst,by rw[j];exact g⟩
 ·rcases D with h | ⟨b,off,rfl,hb,hbl,y⟩
  ·exact absurd h hz
  ·by_cases i:p<n
   ·obtain⟨u,B,c⟩:=y p i
    exact(xF R p m b off n cap u w t x A s r q i hb B c).mono fun e f ⟨z,d,l,k,j⟩=>⟨z,d,l,k,by rw[j];exact hst,by rw[j];exact g⟩
   ·obtain⟨u,B,c⟩:=y (p % n) (Nat.mod_lt _ (by omega))
    obtain⟨v,E,o⟩:=y ((p*7+3) % n) (Nat.mod_lt _ (by omega));exact(vt R p m b off n cap u v w t x A s r q i (by omega) hn hb B E c o).mono fun e f ⟨z,d,l,k,C⟩=>⟨z,d,l,k,hst.below C ly,g.trans (Only.of_below C)⟩
def ByteSl (w:World)(a:Option Addr)(n:Nat):Prop:=n=0∨∃ b off,a=some ⟨b,off,none⟩/\b<w.heap.size/\∀ i,i<n->∃ u:Nat,u<256/\w.cell? ⟨b,off+i,none⟩=some (.int .u8 u)
theorem ByteSl.below {w d:World}{B n:Nat}{a:Option Addr}(h:ByteSl w a n)(hb:Below B w d)(j:w.heap.size<=B):ByteSl d a n:=by
 rcases h with h | ⟨b,off,e,f,g⟩
 ·exact .inl h
 ·refine .inr ⟨b,off,e,lj f hb.size,fun i hi=>?_⟩
  obtain⟨u,k,c⟩:=g i hi;exact⟨u,k,(hb.cell (p:=⟨b,_,none⟩) (lj f j)).trans c⟩
theorem oS {w:World}{a:Option Addr}{n k cap:Nat}(h:ByteSl w a n)(hk:k<=n)(d:k<=2000)(t:TypeId):Rd (w.alloc (.cells #[.slice a k cap,.int .i64 0] t)) w.heap.size 0:=by
 refine⟨a,k,cap,by simp,d,by simp,⟨by simp,by simp⟩,?_⟩;rcases h with h | ⟨b,off,e,f,g⟩
 ·exact .inl (by omega)
 ·refine .inr ⟨b,off,e,f,by simp;omega,fun i hi=>?_⟩
  obtain⟨u,j,c⟩:=g i (by omega);exact⟨u,j,(((q9 w).alloc ly _).cell (p:=⟨b,_,none⟩) f).trans c⟩
theorem sJ (b off n cap:Nat)(w:World)(hn:(n:Int)<=1048576)(hc:n<=cap)(f:ByteSl w (some ⟨b,off,none⟩) n):Calls Tryz.prog 48 #[.slice (some ⟨b,off,none⟩) n cap] w fun e d=>∃ R,e=.returned (.pointer (some ⟨R,0,none⟩))/\w.heap.size<=R/\Rd d R 0/\Below w.heap.size w d:=by
 have c:=ae f;clear f;by_cases h:(2000:Int)<n;all_goals
  go_enter Tryz.func48,Tryz.ntmps48;go_wp2;go_ret;first
   | exact⟨_,rfl,Nat.le_refl _,oS c.out (k:=2000) (by omega) (by omega) _,br.alloc ly _⟩
   | exact⟨_,rfl,Nat.le_refl _,oS c.out (k:=n) (by omega) (by omega) _,br.alloc ly _⟩
theorem sK (a:Option Addr)(cap:Nat)(w:World):Calls Tryz.prog 48 #[.slice a 0 cap] w fun e b=>∃ R,e=.returned (.pointer (some ⟨R,0,none⟩))/\w.heap.size<=R/\Rd b R 0/\Below w.heap.size w b:=by have c:Hid (ByteSl w a 0):=.inl rfl;go_enter Tryz.func48,Tryz.ntmps48;go_wp2;go_ret;exact⟨_,rfl,Nat.le_refl _,oS c.out (k:=0) (by omega) (by omega) _,br.alloc ly _⟩
theorem sL (a:Option Addr)(n cap:Nat)(w:World)(hn:(n:Int)<=1048576)(g:n<=cap)(d:ByteSl w a n):Calls Tryz.prog 48 #[.slice a n cap] w fun e f=>∃ R,e=.returned (.pointer (some ⟨R,0,none⟩))/\w.heap.size<=R/\Rd f R 0/\Below w.heap.size w f:=by
 have c:=d;rcases d with rfl | ⟨b,off,rfl,_,_⟩
 ·exact sK a cap w
 ·exact sJ b off n cap w hn g c
theorem fx (s:ByteArray)(n:Nat)(w:World)(h:s.size*n<=4000)(hn:(n:Int)<=4000):Calls Tryz.prog 54 #[.string s,.int .i64 n] w fun e r=>∃ t:ByteArray,e=.returned (.string t)/\t.size<=s.size*n/\r=w:=by
 have H:=ae h;clear h;go_enter Tryz.func54,Tryz.ntmps54;go_wp2;go_loop [0,1,5] (fun sv i q=>∃ (x:ByteArray) (k:Nat) (o:ByteArray),sv=.string x/\i=.int .i64 k/\q=.string o/\(k:Int)<=4000/\Hid (o.size+x.size*k<=s.size*n)) (fun _ i _=>(intOf i).toNat);case atStart=>exact⟨s,n,⟨#[]⟩,rfl,rfl,rfl,hn,by show 0+s.size*n<=_;omega⟩
 case round =>
  obtain⟨x,k,o,rfl,rfl,rfl,hk,d⟩:=hrel;by_cases hz:(k:Int)=0
  ·obtain rfl:k=0:=by omega
   have m:o.size<=s.size*n:=by have:=d.out;omega
   have c:=ae m;clear m;go_wp2;go_ret;exact⟨o,rfl,c.out,rfl⟩
  ·have hpos:0<(k:Int):=by omega
   have p:x.size<=x.size*k:=Nat.le_mul_of_pos_right _ (by omega);have hx2:(x.size:Int)<=4000:=by have:=d.out;have:=H.out;omega
   have ho2:(o.size:Int)<=4000:=by have:=d.out;have:=H.out;omega
   have q5:(k:Int).tmod 2=(k:Int) % 2:=Int.tmod_eq_emod_of_nonneg (by omega);have f:(x++x).size=x.size+x.size:=by simp
   have l:(o++x).size=o.size+x.size:=by simp
   have b:(x.size+x.size)*(k / 2)+x.size*(k % 2)=x.size*k:=by rw[show x.size*k=x.size*(2*(k / 2)+k % 2) by rw[Nat.div_add_mod]];rw[Nat.mul_add,<-Nat.mul_assoc,Nat.mul_two]
   have j:=ae b;clear b p;by_cases hodd:(k:Int) % 2=1
   ·have c:Hid (k % 2=1):=by show k % 2=1;omega
    go_wp2;refine⟨⟨x++x,k / 2,o++x,rfl,by go_num,rfl,by omega,?_⟩,by simp[intOf];omega⟩;show(o++x).size+(x++x).size*(k / 2)<=s.size*n;have:=d.out;have g:=j.out;rw[c.out,Nat.mul_one] at g;rw[f,l];omega
   ·have c:Hid (k % 2=0):=by show k % 2=0;omega
    go_wp2;refine⟨⟨x++x,k / 2,o,rfl,by go_num,rfl,by omega,?_⟩,by simp[intOf];omega⟩;show o.size+(x++x).size*(k / 2)<=s.size*n;have:=d.out;have g:=j.out;rw[c.out,Nat.mul_zero] at g;rw[f];omega
end Go.Proofs.YtkophfgkcijjkaaGreatDoor.Vp
