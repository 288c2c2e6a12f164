import Derived.Test.YtpmnbjkjpnclaaaGreatDoorSU
import Derived.Test.YtpmnbjkjpnclaaaGreatDoorSP
import Derived.Lib.Builder
import Derived.Laws.ResultCell
import Derived.Laws.Rows
import Derived.Laws.BitsAllLaws
set_option maxRecDepth 100000
set_option maxHeartbeats 8000000
set_option linter.unusedSimpArgs false
open Go renaming Addr.mk->Q,Value.slice->Z,Value.string->U,Value.int->N,Value.agg->ZH,Obj.cells->J,IntKind.i64->I,World->M,Value->ZC,TypeId->ZI,Ending.returned->ZF,World.cell?->A,Proofs.Tryz.prog->Pg
open Option renaming none->Y,some->T
open Bool renaming false->ZA
namespace Go.Proofs.YtpmnbjkjpnclaaaGreatDoor.Vp
open Tryz RowKit
variable {w f:M}{b R c B g n p i:Nat}{x y z:ZC}{L:List I3}{a:Option Addr}{fn:Func}{e:ZI}{op:Int}{s:List UInt8}
theorem wV (a b:Nat)(c:a<4611686018427387904)(hb:b<4611686018427387904):∃x:Nat,bits .xor I (a:Int) (b:Int)=x/\x<4611686018427387904:=by
 have hx:a ^^^ b<2 ^ 62:=Nat.xor_lt_two_pow (by omega) (by omega);refine⟨a ^^^ b,?_,by omega⟩;show IntKind.i64.wrap ((BitVec.ofInt 64 (a:Int) ^^^ BitVec.ofInt 64 (b:Int)).toNat:Int)=_;have e:∀x:Nat,x<4611686018427387904->(BitVec.ofInt 64 (x:Int)).toNat=x:=λx h=>by rw[BitVec.toNat_ofInt];omega
 rw[BitVec.toNat_xor,e a c,e b hb,p9];omega
def SlByte (w:M)(R:Nat)(a:Option Addr)(n:Nat):Prop:=n=0∨∃b off,a=T (Q b off Y)/\b<R/\b<w.heap.size/\∀i,i<n->∃u:Nat,u<256/\A w (Q b (off+i) Y)=T (N .u8 u)
theorem SlByte.G{g:M}(h:SlByte w R a n)(j:Only R w g):SlByte g R a n:=by
 rcases h with h|⟨b,off,e,hb,f,m⟩
 {exact .inl h};{refine .inr ⟨b,off,e,hb,lj f j.size,λi hi=>?_⟩;obtain⟨u,l,c⟩:=m i hi;exact⟨u,l,(j.cell b _ f (by omega)).trans c⟩}
def Rd (w:M)(R p:Nat):Prop:=∃a n cap,R<w.heap.size/\n<=2000/\A w (Q R 0 Y)=T (Z a n cap)/\(A w (Q R 1 Y)=T (N I p)/\w.frozen? (Q R 1 Y)=ZA)/\SlByte w R a n
theorem Rd.lt (h:Rd w R p):R<w.heap.size:=by obtain⟨_,_,_,h,_⟩:=h;exact h
theorem Rd.aa (h:Rd w R p)(hb:Below B w f)(b:w.heap.size<=B):Rd f R p:=by obtain⟨a,n,cap,c,hn,g,⟨h1,h2⟩,i⟩:=h;refine⟨a,n,cap,lj c hb.size,hn,(hb.cell (p:=(Q R 0 Y)) (lj c b)).trans g,⟨(hb.cell (p:=(Q R 1 Y)) (lj c b)).trans h1,(hb.frozen (p:=(Q R 1 Y)) (lj c b)).trans h2⟩,?_⟩;exact i.G (Only.u (hb.mono b))
theorem Rd.low{j:M}(h:Rd w R p)(hb:Below B w j)(f:R<B):Rd j R p:=by
 obtain⟨a,n,cap,s,hn,m,⟨h1,h2⟩,r⟩:=h;refine⟨a,n,cap,lj s hb.size,hn,(hb.cell (p:=(Q R 0 Y)) f).trans m,⟨(hb.cell (p:=(Q R 1 Y)) f).trans h1,(hb.frozen (p:=(Q R 1 Y)) f).trans h2⟩,?_⟩;rcases r with h|⟨b,off,e,g,l,q⟩
 {exact .inl h};{refine .inr ⟨b,off,e,g,lj l hb.size,λi hi=>?_⟩;obtain⟨u,o,c⟩:=q i hi;exact⟨u,o,(hb.cell (p:=(Q b _ Y)) (Nat.lt_trans g f)).trans c⟩}
theorem Only.then{u v:M}(h:Only R u v)(k:Below u.heap.size v w):Only R u w :=
 ⟨k.os.trans h.os,k.tape.trans h.tape,k.output.trans h.output,p7 h.size k.size,λi hi c=>(k.block i hi).trans (h.block i hi c),λb t fz hb=>let ⟨cs1,h1⟩:=h.ty b t fz hb;⟨cs1,(k.block R (ag hb)).trans h1⟩⟩
theorem Rd.step (h:Rd w R p):Rd (w.setCell (Q R 1 Y) (N I ((p:Int)+1))) R (p+1):=by obtain⟨a,n,cap,f,hn,b,⟨h1,h2⟩,c⟩:=h;refine⟨a,n,cap,by simpa using f,hn,(sq _ _ _ _ (by simp)).trans b,⟨?_,by simpa using h2⟩,c.G (iA (Only.refl R w) 1 _)⟩;rw[CX _ _ _ (by rw[h1];rfl)];rfl
theorem Eo (R p:Nat)(m:Int)(a:Option Addr)(cap:Nat)(w:M)(h0:A w (Q R 0 Y)=T (Z a 0 cap))(h1:A w (Q R 1 Y)=T (N I p))(h2:w.frozen? (Q R 1 Y)=ZA)(hp:(p:Int)<=100000)(hm:1<=m):Calls Pg 40 #[.pointer (T (Q R 0 Y)),N I m] w λe b=>e=ZF (N I 0)/\b=w.setCell (Q R 1 Y) (N I ((p:Int)+1)):=by go_enter func40,ntmps40;go_wp2;go_ret;exact⟨rfl,rfl⟩
theorem Hd (R p:Nat)(m:Int)(b off n cap u:Nat)(w:M)(h0:A w (Q R 0 Y)=T (Z (T (Q b off Y)) n cap))(h1:A w (Q R 1 Y)=T (N I p))(h2:w.frozen? (Q R 1 Y)=ZA)(hp:(p:Int)<=100000)(hm:1<=m)(hm2:m<=1000000)
  (hlt:p<n) (hb:b<R) (hu:u<256) (g:A w (Q b (off+p) Y)=T (N .u8 u)) :
  Calls Pg 40 #[.pointer (T (Q R 0 Y)),N I m] w λe h=>∃z:Int,e=ZF (N I z)/\0<=z/\z<m/\h=w.setCell (Q R 1 Y) (N I ((p:Int)+1)):=by
 have hc':(w.setCell (Q R 1 Y) (N I ((p:Int)+1))).cell? (Q b (off+p) Y)=T (N .u8 u):=(cell_far _ _ _ _ (by simp;omega)).trans g;obtain⟨z,hz,f,c⟩:∃z:Int,(u:Int).tmod m=z/\0<=z/\z<m:=⟨_,rfl,Int.tmod_nonneg _ (by omega),Int.tmod_lt_of_pos _ (by omega)⟩
 have hm0:¬ m=0:=by omega
 have hq:(decide (m<1) || ((n:Int) == 0))=ZA:=by simp;omega
 clear g;go_enter func40,ntmps40;go_wp2;go_ret;exact⟨z,rfl,f,c,rfl⟩
theorem Ep (R p:Nat)(m:Int)(b off n cap u v:Nat)(w:M)(B:A w (Q R 0 Y)=T (Z (T (Q b off Y)) n cap))(h1:A w (Q R 1 Y)=T (N I p))(h2:w.frozen? (Q R 1 Y)=ZA)(hp:(p:Int)<=100000)(hm:1<=m)(hm2:m<=1000000)
  (hlt:¬ p<n) (hn1:1<=n) (hn:n<=2000) (hb:b<R) (hu:u<256) (hv:v<256) (h:w.cell? ⟨b,off+p % n,Y⟩=T (N .u8 u)) (l:w.cell? ⟨b,off+(p*7+3) % n,Y⟩=T (N .u8 v)) :
  Calls Pg 40 #[.pointer (T (Q R 0 Y)),N I m] w λe D=>∃z:Int,e=ZF (N I z)/\0<=z/\z<m/\Below (w.setCell (Q R 1 Y) (N I ((p:Int)+1))).heap.size (w.setCell (Q R 1 Y) (N I ((p:Int)+1))) D:=by
 obtain⟨i,hi⟩:∃i,i=p % n:=⟨_,rfl⟩
 obtain⟨j,f⟩:∃j,j=(p*7+3) % n:=⟨_,rfl⟩
 obtain⟨d,c⟩:∃d,d=p / n:=⟨_,rfl⟩
 have hi2:i<n:=by rw[hi];exact T8 _ (by omega)
 have hj2:j<n:=by rw[f];exact T8 _ (by omega)
 have hd2:d<=p:=by rw[c];exact Nat.div_le_self _ _
 have e1:(p:Int).tmod n=i:=by rw[hi];rfl
 have e2:((p:Int)*7+3).tmod n=j:=by rw[f];rfl
 have e3:(p:Int) / n=d:=by rw[c];rfl
 rw[<-hi] at h;rw[<-f] at l;have o:(w.setCell (Q R 1 Y) (N I ((p:Int)+1))).cell? (Q b (off+i) Y)=T (N .u8 u):=(cell_far _ _ _ _ (by simp;omega)).trans h;have r:(w.setCell (Q R 1 Y) (N I ((p:Int)+1))).cell? (Q b (off+j) Y)=T (N .u8 v):=(cell_far _ _ _ _ (by simp;omega)).trans l;have G:(w.setCell (Q R 1 Y) (N I ((p:Int)+1))).cell? (Q R 0 Y)=T (Z (T (Q b off Y)) n cap):=(sq _ _ _ _ (by simp)).trans B;obtain⟨x,ZS,hx2⟩:∃x:Nat,(u:Int)*131+v*1117+p*29+d*53=x/\x<1000000000000:=⟨u*131+v*1117+p*29+d*53,by omega,by omega⟩
 obtain⟨y,g,hy2⟩:=wV x (x / 64) (by omega) (by omega);rw[show((x / 64:Nat):Int)=(x:Int) / 64 from rfl] at g;obtain⟨z,hz,s,t⟩:∃z:Int,(y:Int).tmod m=z/\0<=z/\z<m:=⟨_,rfl,Int.tmod_nonneg _ (by omega),Int.tmod_lt_of_pos _ (by omega)⟩
 have hm0:¬ m=0:=by omega
 have hq:(decide (m<1) || ((n:Int) == 0))=ZA:=by simp;omega
 have hn0:¬ (n:Int)=0:=by omega
 have hge:(n:Int)<=p:=by omega
 have E:=ae ZS;have F:=ae g;have C:=ae hz;clear hi f h l ZS g hz c;go_enter func40,ntmps40;go_wp2_with fail;go_quiet (fail);have q:=ae (BM (dB (w.setCell (Q R 1 Y) (N I ((p:Int)+1))).heap.size (w.setCell (Q R 1 Y) (N I ((p:Int)+1)))) nq);rw[E.out];clear o r G;generalize (w.setCell (Q R 1 Y) (N I ((p:Int)+1))).drewN nq=W at q ⊢;have g:=F.out;have hz:=C.out;go_wp2;go_ret;exact⟨z,rfl,s,t,q⟩
theorem au (R p:Nat)(m:Int)(w:M)(hR:Rd w R p)(y:(p:Int)<=100000)(B:1<=m)(s:m<=1000000):Calls Pg 40 #[.pointer (T (Q R 0 Y)),N I m] w λe g=>∃z:Int,e=ZF (N I z)/\0<=z/\z<m/\Rd g R (p+1)/\Only R w g:=by
 have hR':=hR;have hst:=hR.step;have j:Only R w (w.setCell (Q R 1 Y) (N I ((p:Int)+1))):=iA (Only.refl R w) 1 _;obtain⟨a,n,cap,hl,hn,t,⟨h1,h2⟩,D⟩:=hR;by_cases hz:n=0;{subst hz;exact(Eo R p m a cap w t h1 h2 y B).mono λe g ⟨i,f⟩=>⟨0,i,by omega,by omega,by rw[f];exact hst,by rw[f];exact j⟩}
 ·rcases D with h|⟨b,off,rfl,hb,hbl,ZS⟩
  {exact absurd h hz};{by_cases q:p<n;{obtain⟨u,x,c⟩:=ZS p q;exact(Hd R p m b off n cap u w t h1 h2 y B s q hb x c).mono λe g ⟨z,i,l,r,f⟩=>⟨z,i,l,r,by rw[f];exact hst,by rw[f];exact j⟩};{obtain⟨u,x,c⟩:=ZS (p % n) (T8 _ (by omega));obtain⟨v,E,o⟩:=ZS ((p*7+3) % n) (T8 _ (by omega));exact(Ep R p m b off n cap u v w t h1 h2 y B s q (by omega) hn hb x E c o).mono λe g ⟨z,i,l,r,C⟩=>⟨z,i,l,r,hst.aa C ly,j.trans (Only.u C)⟩}}
def ByteSl (w:M)(a:Option Addr)(n:Nat):Prop:=n=0∨∃b off,a=T (Q b off Y)/\b<w.heap.size/\∀i,i<n->∃u:Nat,u<256/\A w (Q b (off+i) Y)=T (N .u8 u)
theorem ByteSl.aa{g:M}(h:ByteSl w a n)(hb:Below B w g)(m:w.heap.size<=B):ByteSl g a n:=by
 rcases h with h|⟨b,off,e,f,l⟩
 {exact .inl h};{refine .inr ⟨b,off,e,lj f hb.size,λi hi=>?_⟩;obtain⟨u,j,c⟩:=l i hi;exact⟨u,j,(hb.cell (p:=(Q b _ Y)) (lj f m)).trans c⟩}
theorem uw{k cap:Nat}(h:ByteSl w a n)(hk:k<=n)(f:k<=2000)(t:ZI):Rd (w.alloc (J #[Z a k cap,N I 0] t)) w.heap.size 0:=by
 refine⟨a,k,cap,by simp,f,by simp,⟨by simp,by simp⟩,?_⟩;rcases h with h|⟨b,off,e,g,l⟩
 {exact .inl (by omega)};{refine .inr ⟨b,off,e,g,by simp;omega,λi hi=>?_⟩;obtain⟨u,j,c⟩:=l i (by omega);exact⟨u,j,(((q9 w).alloc ly _).cell (p:=(Q b _ Y)) g).trans c⟩}
theorem zk (b off n cap:Nat)(w:M)(hn:(n:Int)<=1048576)(hc:n<=cap)(g:ByteSl w (T (Q b off Y)) n):Calls Pg 38 #[Z (T (Q b off Y)) n cap] w λe f=>∃R,e=ZF (.pointer (T (Q R 0 Y)))/\w.heap.size<=R/\Rd f R 0/\Below w.heap.size w f:=by
 have c:=ae g;clear g;by_cases h:(2000:Int)<n;all_goals
  go_enter func38,ntmps38;go_wp2;go_ret;first
   |exact⟨_,rfl,n6 _,uw c (k:=2000) (by omega) (by omega) _,br.alloc ly _⟩
   |exact⟨_,rfl,n6 _,uw c (k:=n) (by omega) (by omega) _,br.alloc ly _⟩
theorem zm (a:Option Addr)(cap:Nat)(w:M):Calls Pg 38 #[Z a 0 cap] w λe b=>∃R,e=ZF (.pointer (T (Q R 0 Y)))/\w.heap.size<=R/\Rd b R 0/\Below w.heap.size w b:=by have c:Hid (ByteSl w a 0):=.inl rfl;go_enter func38,ntmps38;go_wp2;go_ret;exact⟨_,rfl,n6 _,uw c (k:=0) (by omega) (by omega) _,br.alloc ly _⟩
theorem lW (a:Option Addr)(n cap:Nat)(w:M)(hn:(n:Int)<=1048576)(h:n<=cap)(f:ByteSl w a n):Calls Pg 38 #[Z a n cap] w λe c=>∃R,e=ZF (.pointer (T (Q R 0 Y)))/\w.heap.size<=R/\Rd c R 0/\Below w.heap.size w c:=by
 have g:=f;rcases f with rfl|⟨b,off,rfl,_,_⟩
 {exact zm a cap w};{exact zk b off n cap w hn h g}
theorem eQ (s:ByteArray)(n:Nat)(w:M)(h:s.size*n<=4000)(hn:(n:Int)<=4000):Calls Pg 74 #[U s,N I n] w λe u=>∃t:ByteArray,e=ZF (U t)/\t.size<=s.size*n/\u=w:=by
 have H:=ae h;clear h;go_enter func74,ntmps74;go_wp2;go_loop [0,1,5] (λsv i r=>∃(x:ByteArray) (k:Nat) (o:ByteArray),sv=U x/\i=N I k/\r=U o/\(k:Int)<=4000/\Hid (o.size+x.size*k<=s.size*n)) (λ_ i _=>(intOf i).toNat);case atStart=>exact⟨s,n,⟨#[]⟩,rfl,rfl,rfl,hn,by show 0+s.size*n<=_;omega⟩
 case round =>
  obtain⟨x,k,o,rfl,rfl,rfl,hk,b⟩:=hrel;by_cases hz:(k:Int)=0
  ·obtain rfl:k=0:=by omega
   have p:o.size<=s.size*n:=by have:=b.out;omega
   have f:=ae p;clear p;go_wp2;go_ret;exact⟨o,rfl,f,rfl⟩
  ·have hpos:0<(k:Int):=by omega
   have q:x.size<=x.size*k:=Nat.le_mul_of_pos_right _ (by omega);have hx2:(x.size:Int)<=4000:=by have:=b.out;have:=H.out;omega
   have ho2:(o.size:Int)<=4000:=by have:=b.out;have:=H.out;omega
   have q5:(k:Int).tmod 2=(k:Int) % 2:=QV (by omega);have g:(x++x).size=x.size+x.size:=by simp
   have l:(o++x).size=o.size+x.size:=by simp
   have c:(x.size+x.size)*(k / 2)+x.size*(k % 2)=x.size*k:=by rw[show x.size*k=x.size*(2*(k / 2)+k % 2) by rw[Nat.div_add_mod]];rw[Nat.mul_add,<-Nat.mul_assoc,Nat.mul_two]
   have m:=ae c;clear c q;by_cases hodd:(k:Int) % 2=1
   ·have f:Hid (k % 2=1):=by show k % 2=1;omega
    go_wp2;refine⟨⟨x++x,k / 2,o++x,rfl,by go_num,rfl,by omega,?_⟩,by simp[intOf];omega⟩;show(o++x).size+(x++x).size*(k / 2)<=s.size*n;have:=b.out;have j:=m.out;rw[f.out,Nat.mul_one] at j;rw[g,l];omega
   ·have f:Hid (k % 2=0):=by show k % 2=0;omega
    go_wp2;refine⟨⟨x++x,k / 2,o,rfl,by go_num,rfl,by omega,?_⟩,by simp[intOf];omega⟩;show o.size+(x++x).size*(k / 2)<=s.size*n;have:=b.out;have j:=m.out;rw[f.out,Nat.mul_zero] at j;rw[g];omega
def CI (w:M)(b:Nat)(x y z:ZC):Prop:=w.heap[b]?=T (J #[x,y,z] 151 (0,0))
theorem CI.lt (h:CI w b x y z):b<w.heap.size:=(eT.1 h).1
theorem CI.c0 (h:CI w b x y z):A w (Q b 0 Y)=T x:=by rw[HU h];rfl
theorem CI.c1 (h:CI w b x y z):A w (Q b 1 Y)=T y:=by rw[HU h];rfl
theorem CI.c2 (h:CI w b x y z):A w (Q b 2 Y)=T z:=by rw[HU h];rfl
theorem CI.fz (h:CI w b x y z)(j:Nat):w.frozen? (Q b j Y)=ZA:=PC h j
theorem CI.aa{c:M}(h:CI w b x y z)(hb:Below B w c)(f:b<B):CI c b x y z:=(hb.block b f).trans h
theorem CI.new (w:M)(x y z:ZC):CI (w.alloc (J #[x,y,z] 151)) w.heap.size x y z:=nL w _
theorem CI.other (h:CI w b x y z)(p:Addr)(c:p.block≠b)(v:ZC):CI (w.setCell p v) b x y z:=by unfold CI at *;simp[World.setCell,CP,c,h]
theorem CI.set1 (h:CI w b x y z)(v:ZC):CI (w.setCell (Q b 1 Y) v) b x v z:=by unfold CI at *;simp[World.setCell,CP,h]
theorem CI.set2 (h:CI w b x y z)(v:ZC):CI (w.setCell (Q b 2 Y) v) b x y v:=by unfold CI at *;simp[World.setCell,CP,h]
theorem CI.set0 (h:CI w b x y z)(v:ZC):CI (w.setCell (Q b 0 Y) v) b v y z:=by unfold CI at *;simp[World.setCell,CP,h]
theorem CI.all (h:CI w b x y z)(c f g:ZC):CI (((w.setCell (Q b 0 Y) c).setCell (Q b 1 Y) f).setCell (Q b 2 Y) g) b c f g:=((h.set0 c).set1 f).set2 g
theorem xU:(Pg.info? 151).map (·.size)=T 3:=by kernel_rfl
theorem eJ{p u:Tmp}(h:fn.results=#[.cell p 151,.tmp u])(tmps:Array ZC)(w:M)(g:Nat)(x y z:ZC)(b:tmps.getD p undef=.pointer (T (Q g 0 Y)))(c:CI w g x y z):(results fn tmps).run Pg w=.ok (.tuple #[ZH #[x,y,z],tmps.getD u undef]) w:=by rw[results_cell_tmp h,b];simp[asAddr,run_loadVar_row w g 151 151 #[x,y,z] (0,0) _ c WX rfl xU,Result.andThen]
def i3V (i:I3):List ZC:=[N I i.1,U ⟨i.2.1.toArray⟩,N I i.2.2]
def i3L (L:List I3):List ZC:=L.flatMap i3V
theorem jH:∀L:List I3,(i3L L).length=L.length*3
 |[]=>rfl
 |i::L=>by have:=jH L;simp only[i3L,KK,cM,eL] at this ⊢;rw[this];simp[i3V];omega
theorem Er{j:Nat}{v:ZC}{f:List ZC}(h:w.ownsRow b e c v n f)(hR:R<b)(u:ZC):(w.setCell (Q R j Y) u).ownsRow b e c v n f:=by
 refine⟨h.1,?_⟩;rcases h.2 with hn|⟨g,cap,i,m,o,l,r⟩
 {exact .inl hn}
 ·refine .inr ⟨g,cap,i,m,o,?_,r⟩;have:R≠g:=by omega
  simp[World.setCell,CP,this,l]
def PB (w:M)(b:Nat)(v:ZC):Prop:=w.heap[b]?=T (J #[v] 43 (0,0))
theorem PB.lt{v:ZC}(h:PB w b v):b<w.heap.size:=(eT.1 h).1
theorem PB.c0{v:ZC}(h:PB w b v):A w (Q b 0 Y)=T v:=by rw[HU h];rfl
theorem PB.fz{v:ZC}(h:PB w b v)(j:Nat):w.frozen? (Q b j Y)=ZA:=PC h j
theorem PB.aa{c:M}{v:ZC}(h:PB w b v)(hb:Below B w c)(f:b<B):PB c b v:=(hb.block b f).trans h
theorem PB.set{v:ZC}(h:PB w b v)(c:ZC):PB (w.setCell (Q b 0 Y) c) b c:=by unfold PB at *;simp[World.setCell,CP,h]
theorem wW:(Pg.info? 43).map (·.size)=T 1:=by kernel_rfl
theorem ux (c:UInt8):(10:UInt8) ∉ enc c:=by refine us (p:=λc=>(10:UInt8) ∉ enc c) ?_ c;decide +kernel
theorem Be{k:Int}(h:1<=k/\k<=15):(10:UInt8) ∉ word k:=by rcases iD h with rfl|rfl|rfl|rfl|rfl|rfl|rfl|rfl|rfl|rfl|rfl|rfl|rfl|rfl|rfl<;>decide
theorem lX:∀n:Nat,(10:UInt8) ∉ Lib.decDigits n:=by
 intro n;induction n using Nat.strongRecOn with
 |ind n b =>
  rw[Lib.decDigits];split;{rename_i h;intro h2;have h3:=nD.1 h2;have h4:=wA UInt8.toNat h3;rw[OD] at h4;have c:(10:UInt8).toNat=10:=rfl;omega};{rename_i h;intro h2;rcases p8.1 h2 with h2|h2;{exact b (n / 10) (by omega) h2};{have h3:=nD.1 h2;have h4:=wA UInt8.toNat h3;rw[OD] at h4;have c:(10:UInt8).toNat=10:=rfl;omega}}
theorem Bf{n:Int}(h:aH op s.length n=true):(10:UInt8) ∉ aR op s n:=by
 obtain⟨h1,_⟩:=ee h;have f:=Be h1;unfold aR;intro b;split at b;{rw[dy] at b;rcases p8.1 b with b|b;{exact f b};{simp only[AT,p8,P9,nj,RC] at b;rcases b with b|(b|⟨c,_,b⟩)|b;{exact absurd b (by decide)};{exact absurd b (by decide)};{exact ux c b};{exact absurd b (by decide)}}};{split at b;{exact f b};{rcases p8.1 b with b|b;{exact f b};{rcases AT.1 b with b|b;{exact absurd b (by decide)};{exact lX _ b}}}}
theorem He{n:Int}(h:aH op s.length n=true):aR op s n≠[]:=by
 obtain⟨h1,_⟩:=ee h;have b:word op≠[]:=by rcases iD h1 with rfl|rfl|rfl|rfl|rfl|rfl|rfl|rfl|rfl|rfl|rfl|rfl|rfl|rfl|rfl<;>decide
 unfold aR;split;{simp};{split;{exact b};{simp}}
def qY (b:List UInt8):List ZC:=b.map λc=>N .u8 (c.toNat:Int)
theorem Jj:(Pg.info? 5).map (λi=>(i.zero,i.size,i.bytes))=T (T (N .u8 0),1,1):=by kernel_rfl
theorem gA{i:M}{size:Nat}{v:ZC}{f:List ZC}(h:w.ownsRow b e size v n f)(c:Only R w i)(hR:R<b):i.ownsRow b e size v n f:=by
 refine h.kept (row:=T R) ⟨c.os,c.tape,c.output,c.size,λk l j=>c.block k l (by simpa using j)⟩ ?_;rcases h.2 with ⟨rfl,_⟩|⟨g,cap,cur,rfl,hg,_⟩
 {exact .inl rfl};{right;simp[Value.ownBlock];omega}
theorem zn{z:Int}(b:0<=z)(h1:z<159):∃c:UInt8,97+z=(c.toNat:Int):=by obtain⟨k,rfl⟩:=AP b;refine⟨UInt8.ofNat (97+k),?_⟩;rw[OD];omega
theorem Bg (b:List UInt8)(c:UInt8):qY (b++[c])=qY b++[N .u8 (c.toNat:Int)]:=by simp[qY]
theorem Es (b:List UInt8)(w:M)(g cap k:Nat)(f:b.length=k)(h:∀j (c:j<b.length),w.cell? (((Q g 0 Y):Addr).add j)=T (N .u8 (b[j].toNat:Int))):(convert 22 9 (Z (T (Q g 0 Y)) k cap)).run Pg w=.ok (U ⟨b.toArray⟩) w:=by subst f;refine P0 _ 22 9 5 (Q g 0 Y) cap b IS N5 F3 ?_;intro j c;exact h j c
theorem gZ (R p:Nat)(w:M)(hR:Rd w R p)(hp:(p:Int)<=50000):Calls Pg 90 #[.pointer (T (Q R 0 Y))] w λe X=>∃t:ByteArray,e=ZF (U t)/\t.size<=8/\∃q:Nat,q<=p+8/\Rd X R q/\Only R w X:=by
 have HR:=ae hR;clear hR;go_enter func90,ntmps90;go_wp2_with fail;refine(au R p 12 _ HR (by omega) (by omega) (by omega)).mono ?_;rintro e n ⟨z,rfl,hz0,hz1,F,G⟩;have x:=ae F;have O:=ae G;clear F G;by_cases h3:z=3
 ·subst h3;have L:=ae ((q9 n).alloc ly (J #[U ⟨#[97,32,98]⟩,U ⟨#[97,9,98,32,99]⟩] 9));have S:=ae (x.aa L ly);have k0:(n.alloc (J #[U ⟨#[97,32,98]⟩,U ⟨#[97,9,98,32,99]⟩] 9)).cell? (Q n.heap.size 0 Y)=T (U ⟨#[97,32,98]⟩):=by simp
  have ZL:(n.alloc (J #[U ⟨#[97,32,98]⟩,U ⟨#[97,9,98,32,99]⟩] 9)).cell? (Q n.heap.size 1 Y)=T (U ⟨#[97,9,98,32,99]⟩):=by simp
  go_wp2_with fail;refine(au R (p+1) 2 _ S (by omega) (by omega) (by omega)).mono ?_;rintro e b ⟨y,rfl,D,V,l,f⟩;have hl:=x.lt;have j0:=(f.cell n.heap.size 0 (by simp) (by omega)).trans k0;have j1:=(f.cell n.heap.size 1 (by simp) (by omega)).trans ZL;have ZO:=ae l;have ZS:=ae ((O.trans (Only.u L)).trans f);clear l f k0 ZL L;rcases(show y=0∨y=1 by omega) with rfl|rfl;all_goals
   go_wp2;go_ret;exact⟨_,rfl,by decide,p+1+1,by omega,ZO,ZS⟩
 by_cases h6:z<6
 ·rcases(show z=0∨z=1∨z=2∨z=4∨z=5 by omega) with rfl|rfl|rfl|rfl|rfl;all_goals
   go_wp2;go_ret;exact⟨_,rfl,by decide,p+1,by omega,x,O⟩
 have n0:¬ z=0:=by omega
 have n1:¬ z=1:=by omega
 have n2:¬ z=2:=by omega
 have n4:¬ z=4:=by omega
 have n5:¬ z=5:=by omega
 go_wp2_with fail;refine(au R (p+1) 5 _ x (by omega) (by omega) (by omega)).mono ?_;rintro e b ⟨y,rfl,D,V,l,f⟩;have S:=ae l;have O2:=ae (O.trans f);have E:=l.lt;clear l f;have ZJ:=ae ((q9 b).alloc ly (J #[] 5));have W2:=ae (P3 b #[] 0 (e:=5) (size:=1) (n6 b.heap.size) (by unfold maxLen;omega) rfl);obtain⟨m,rfl⟩:=AP D;obtain⟨fd,hi,aq,bt,la⟩:=OB Jj;go_wp2;go_loopw [4,5] (λv i wr=>∃(k:Nat) (h:List UInt8),k<=m+1/\i=N I k/\Hid (h.length=k)/\Hid (wr.ownsRow b.heap.size 5 1 v k (qY h))/\Hid (Rd wr R (p+2+k))/\Hid (Only R b wr)) (λ_ i _=>m+1 - (intOf i).toNat);case atStart=>exact⟨0,[],by omega,rfl,rfl,W2,S.aa ZJ ly,Only.u ZJ⟩
 case round =>
  obtain⟨k,h,hk,rfl,ZN,P,RR,ZP⟩:=hrel;have hsz:b.heap.size<=wr.heap.size:=ZP.size;by_cases hlt:(k:Int)<=m;{go_wp2_with fail;refine(au R (p+2+k) 4 _ RR (by omega) (by omega) (by omega)).mono ?_;rintro e ZQ ⟨c,rfl,W,hc1,H,u⟩;obtain⟨C,hC⟩:=zn W (by omega);have ZO:=ae H;have ZS:=ae (ZP.trans u);have B:=ae (gA P u E);have K:b.heap.size<=ZQ.heap.size:=ZS.size;clear H u;go_wp2_with (at_builtin;refine BS _ rfl (.tmp 33) (.tmp 38) 22 rfl b.heap.size 5 fd (N .u8 0) 1 1 IS hi aq bt la rfl (by decide) _ k (qY h) (by simp[Act.eval]) (B.alloc _) (Q ZQ.heap.size 0 Y) 1 1 [N .u8 (C.toNat:Int)] (by simp[Act.eval]) rfl (cu _ _ _) (by simp[Value.oneCell']) (by unfold maxLen;omega) (by omega) (by simp;omega) ?_;intro v' w4 s o ZR;have O4:=ae s;have ZK:=ae (bg ((dB b.heap.size ZQ).alloc K (J #[N .u8 (C.toNat:Int)] 5)) o (by simp;omega) (λj e=>(B.lt j e).1));clear s o ZR);refine⟨⟨k+1,h++[C],by omega,by go_num,by show(h++[C]).length=k+1;simp[ZN.out],?_,?_,ZS.then ZK.out⟩,by simp[intOf];omega⟩;{show World.ownsRow _ _ _ _ _ _ _;rw[Bg];exact O4};{exact ZO.low ZK E}}
  ·have O5:=ae (O2.trans ZP);obtain⟨g,cap,rfl⟩:=dr P (by omega);have dg:=Es h wr g cap k ZN.out (λj hj=>P.cells (g:=g) rfl j _ (by simp[qY,hj]));have r:(⟨h.toArray⟩:ByteArray).size<=8:=by show h.toArray.size<=8;have:=ZN.out;simp;omega
   have HZ:=ae r;generalize (⟨h.toArray⟩:ByteArray)=ZM at dg HZ;clear r;go_wp2;go_ret;exact⟨ZM,rfl,HZ,p+2+k,by omega,RR,O5⟩
theorem Bh (W:M)(y:Nat)(hy:y<10):∃ZM:ByteArray,ZM.size<=3/\(W.alloc (J #[U ⟨#[32]⟩,U ⟨#[10]⟩,U ⟨#[34]⟩,U ⟨#[92]⟩,U ⟨#[48]⟩,U ⟨#[120]⟩,U ⟨#[92,52]⟩,U ⟨#[101,110,100]⟩,U ⟨#[92,122,122]⟩,U ⟨#[92,70,70]⟩] 9)).cell? (Q W.heap.size y Y)=T (U ZM):=by rcases(show y=0∨y=1∨y=2∨y=3∨y=4∨y=5∨y=6∨y=7∨y=8∨y=9 by omega) with rfl|rfl|rfl|rfl|rfl|rfl|rfl|rfl|rfl|rfl;all_goals refine⟨_,?_,by simp;rfl⟩;decide
theorem uy (C:UInt8):(⟨#[C]⟩:ByteArray).size=1:=rfl
theorem Bi (C:UInt8):IntKind.u8.wrap (C.toNat:Int)=C.toNat:=by have:=C.toNat_lt;rw[TN];omega
theorem byte_of{c:Int}(b:0<=c)(h1:c<256):∃C:UInt8,c=(C.toNat:Int):=by obtain⟨k,rfl⟩:=AP b;refine⟨UInt8.ofNat k,?_⟩;rw[OD];omega
theorem zo (R p:Nat)(s:ByteArray)(w:M)(hR:Rd w R p)(hp:(p:Int)<=50000)(hs:(s.size:Int)<=400000):Calls Pg 83 #[.pointer (T (Q R 0 Y)),U s] w λe H=>∃t:ByteArray,e=ZF (U t)/\(t.size:Int)<=2*s.size+20/\∃q:Nat,q<=p+8/\Rd H R q/\Only R w H:=by
 have K:=ae hR;clear hR;go_enter func83,ntmps83;go_wp2_with fail;refine(au R p ((s.size:Int)+1) _ K (by omega) (by omega) (by omega)).mono ?_;rintro e w1 ⟨i,rfl,F,hi1,o,u⟩;have L:=ae o;have ZO:=ae u;clear o u;obtain⟨i,rfl⟩:=AP F;have hA:(s.extract 0 i).size=i:=by simp;omega
 have hB:(s.extract i s.size).size=s.size - i:=by simp
 go_wp2_with fail;refine(au R (p+1) 5 _ L (by omega) (by omega) (by omega)).mono ?_;rintro e b ⟨z,rfl,hz0,hz1,r,x⟩;have l:=ae r;have g:=ae (ZO.trans x);clear r x;have hl:=l.lt;rcases(show z=0∨z=1∨z=2∨z=3∨z=4 by omega) with rfl|rfl|rfl|rfl|rfl;{go_wp2;go_ret;exact⟨_,rfl,by omega,p+1+1,by omega,l,g⟩}
 ·go_wp2_with fail;go_region_with (go_at_call 40;refine(au R (p+1+1) 10 _ ?_ (by omega) (by omega) (by omega)).mono ?_;exact l.aa (B:=b.heap.size) (by repeat (first|exact dB _ _|(refine TF ?_)|(refine T9 ?_ (by simp) _))) ly;rintro e h ⟨y,rfl,G,hy1,j,f⟩;obtain⟨y,rfl⟩:=AP G;have n:=ae j;have m:Hid (Only R b h):=(Only.u (w:=b) (by repeat (first|exact dB _ _|(refine TF ?_)|(refine T9 ?_ (by simp) _)))).trans f;(first|(obtain⟨ZM,O,D⟩:=Bh b.drew y (by omega);replace D:=(f.cell b.heap.size y (by simp) (by omega)).trans D)|obtain⟨ZM,O,D⟩:=Bh h y (by omega));clear j f);all_goals
   go_wp2;go_ret;first
    |exact⟨_,rfl,by simp;omega,p+1+1+1,by omega,n,g.trans m⟩
    |exact⟨_,rfl,by simp;omega,p+1+1+1,by omega,n.aa (B:=h.heap.size) (by repeat (first|exact dB _ _|(refine TF ?_)|(refine T9 ?_ (by simp) _))) ly,(g.trans m).trans (Only.u (w:=h) (by repeat (first|exact dB _ _|(refine TF ?_)|(refine T9 ?_ (by simp) _))))⟩
 ·by_cases ZQ:(i:Int)<s.size
  ·have ZR:(s.extract (i+1) s.size).size=s.size - (i+1):=by simp
   go_wp2_with fail;go_quiet (fail);have ZS:=ae (BM (q9 b) nq);generalize b.drewN nq=W at ZS ⊢;go_wp2;go_ret;exact⟨_,rfl,by simp;omega,p+1+1,by omega,l.aa ZS ly,g.trans (Only.u ZS)⟩
  {go_wp2;go_ret;exact⟨_,rfl,by simp;omega,p+1+1,by omega,l,g⟩}
 ·by_cases ZQ:(i:Int)<s.size
  ·have ZR:(s.extract (i+1) s.size).size=s.size - (i+1):=by simp
   have hltN:i<s.size:=by omega
   have hw1:IntKind.i64.wrap ((i:Int)+1)=(i:Int)+1:=by rw[p9];omega
   go_wp2_with fail;go_region_with (go_at_call 40;refine(au R (p+1+1) 256 _ ?_ (by omega) (by omega) (by omega)).mono ?_;exact l.aa (B:=b.heap.size) (by repeat (first|exact dB _ _|(refine TF ?_)|(refine T9 ?_ (by simp) _))) ly;rintro e h ⟨c,rfl,E,ZP,j,f⟩;obtain⟨C,rfl⟩:=byte_of E ZP;have hcv:=oT (C.toNat:Int) C rfl;have hwr:=Bi C;have n:=ae j;have m:Hid (Only R b h):=(Only.u (w:=b) (by repeat (first|exact dB _ _|(refine TF ?_)|(refine T9 ?_ (by simp) _)))).trans f;clear j f);all_goals
    go_wp2;go_ret;first
     |exact⟨_,rfl,by simp[uy];omega,p+1+1+1,by omega,n,g.trans m⟩
     |exact⟨_,rfl,by simp[uy];omega,p+1+1+1,by omega,n.aa (B:=h.heap.size) (by repeat (first|exact dB _ _|(refine TF ?_)|(refine T9 ?_ (by simp) _))) ly,(g.trans m).trans (Only.u (w:=h) (by repeat (first|exact dB _ _|(refine TF ?_)|(refine T9 ?_ (by simp) _))))⟩
  {go_wp2;go_ret;exact⟨_,rfl,by simp;omega,p+1+1,by omega,l,g⟩}
 {go_wp2;go_ret;exact⟨_,rfl,by simp;omega,p+1+1,by omega,l,g⟩}
theorem o6{p:Tmp}(h:fn.results=#[.cell p 151])(tmps:Array ZC)(w:M)(g:Nat)(x y z:ZC)(b:tmps.getD p undef=.pointer (T (Q g 0 Y)))(c:CI w g x y z):(results fn tmps).run Pg w=.ok (ZH #[x,y,z]) w :=
 results_cell_row h tmps w g 151 #[x,y,z] (0,0) _ b c WX rfl xU
theorem bm (s:ByteArray)(w:M):Calls Pg 98 #[U s] w λe b=>e=ZF (ZH #[N I 1,U s,N I 0])/\Below w.heap.size w b:=by
 go_enter func98,ntmps98;go_wp2;try simp only[Exit.inBlock,Exit.then]
 refine bp (o6 rfl _ _ w.heap.size _ _ _ rfl (CI.new w _ _ _)) rfl ?_;exact⟨rfl,br.alloc ly _⟩
theorem aW (op:Int)(w:M):Calls Pg 99 #[N I op] w λe b=>e=ZF (ZH #[N I op,U ⟨#[]⟩,N I 0])/\Below w.heap.size w b:=by
 go_enter func99,ntmps99;go_wp2;try simp only[Exit.inBlock,Exit.then]
 refine bp (o6 rfl _ _ w.heap.size _ _ _ rfl (CI.new w _ _ _)) rfl ?_;exact⟨rfl,br.alloc ly _⟩
theorem bw (op n:Int)(w:M):Calls Pg 147 #[N I op,N I n] w λe b=>e=ZF (ZH #[N I op,U ⟨#[]⟩,N I n])/\Below w.heap.size w b:=by
 go_enter func147,ntmps147;go_wp2;try simp only[Exit.inBlock,Exit.then]
 refine bp (o6 rfl _ _ w.heap.size _ _ _ rfl (CI.new w _ _ _)) rfl ?_;exact⟨rfl,br.alloc ly _⟩
theorem oz (n:Int)(w:M):Calls Pg 227 #[N I n] w λe b=>e=ZF (N I (if 200<n then 200 else n))/\b=w:=by
 by_cases h:200<n;{rw[p6 h];go_enter func227,ntmps227;go_wp2;go_ret;exact⟨rfl,rfl⟩};{rw[gM h];go_enter func227,ntmps227;go_wp2;go_ret;exact⟨rfl,rfl⟩}
theorem eh (R p:Nat)(w:M)(hR:Rd w R p)(hp:(p:Int)<=90000):Calls Pg 87 #[.pointer (T (Q R 0 Y))] w λe i=>∃t:ByteArray,e=ZF (U t)/\t.size<=30/\Rd i R (p+1)/\Only R w i:=by
 have j:=ae hR;clear hR;go_enter func87,ntmps87;go_wp2_with fail;refine(au R p 16 _ j (by omega) (by omega) (by omega)).mono ?_;rintro e w1 ⟨z,rfl,hz0,hz1,c,f⟩;have g:=ae c;have h:=ae f;clear c f;by_cases h6:z<6
 ·rcases(show z=0∨z=1∨z=2∨z=3∨z=4∨z=5 by omega) with rfl|rfl|rfl|rfl|rfl|rfl;all_goals
   go_wp2;go_ret;exact⟨_,rfl,by decide,g,h⟩
 ·by_cases h14:z<14
  ·obtain⟨m,rfl⟩:∃m:Nat,z=(m:Int)+6:=⟨(z - 6).toNat,by omega⟩
   have hm:m<=7:=by omega
   have DC:=ae (λV=>gE m (by omega) V);have hd:=nQ m (by omega);go_wp2_with fail;refine(DC _).mono ?_;rintro e w2 ⟨rfl,b⟩;have l:=ae (g.aa b ly);have n:=ae (h.trans (Only.u b));clear b;go_wp2;go_ret;exact⟨_,rfl,by rw[IH];show 1+(Lib.decDigits m).length<=30;omega,l,n⟩
  {go_wp2;go_ret;exact⟨_,rfl,by decide,g,h⟩}
theorem o7:∃i,Pg.info? 151=T i/\i.zero=T (ZH #[N I 0,U ⟨#[]⟩,N I 0])/\i.size=3/\i.bytes=32:=by obtain⟨i,hi,hz⟩:=OQ.1 lm;simp only[LN] at hz;exact⟨i,hi,hz⟩
def IR (w:M)(b g c:Nat)(L:List I3):Prop:=w.ownsRow b 151 3 (Z (T (Q g 0 Y)) L.length c) L.length (i3L L)
theorem IR.aa (h:IR w b g c L)(hb:Below B w f)(i:w.heap.size<=B):IR f b g c L:=own_below h hb i
theorem IR.lt (h:IR w b g c L):b<=g/\g<w.heap.size:=SF h g rfl
theorem IR.G (h:IR w b g c L)(i:Only R w f)(hR:R<b):IR f b g c L:=gA h i hR
theorem IR.lit (w:M):IR (w.alloc (J #[] 151)) w.heap.size w.heap.size 0 [] :=
 ⟨by simp[i3L],.inr ⟨w.heap.size,0,#[],rfl,n6 _,nL w _,n6 _,by unfold maxLen;omega,by simp,by simp[i3L]⟩⟩
theorem qZ (L ZR:List I3):i3L (L++ZR)=i3L L++i3L ZR:=by simp[i3L]
theorem xV (L:List I3):∀u∈i3L L,u.oneCell'=true:=by intro u b;simp only[i3L,P9,i3V] at b;obtain⟨x,_,c⟩:=b;simp at c;rcases c with rfl|rfl|rfl<;>simp[Value.oneCell']
theorem jd (b off j:Nat):((Q b off Y):Addr).add j=(Q b (off+j) Y):=by unfold Addr.add;split<;>simp_all
theorem dA (w:M)(b:Array ZC)(t:ZI):∀j u,b.toList[j]?=T u->(w.alloc (J b t)).cell? (((Q w.heap.size 0 Y):Addr).add j)=T u:=by intro j u c;rw[jd,FM];exact jk w b t w.heap.size j u rfl (by simpa using c)
theorem IR.news (h:IR w b g c L):∀j u,(i3L L)[j]?=T u->w.cell? (((Q g 0 Y):Addr).add j)=T u:=λj u f=>UR h (g:=g) rfl j u f
theorem gK{q:Array Oper}{rest:List Oper}{o:Oper}{a:Act}{ZN:Exit->Act->M->Prop}(ZS:o.guard=Y)(s x:Operand)
  (ZP:o.op=.call { callee:=.builtin .append,args:=#[s,x],argTypes:=#[41,41] }) (b g c:Nat) (L:List I3) (F:a.eval s=Z (T (Q g 0 Y)) L.length c) (t:IR w b g c L)
  (r:Addr) (m d:Nat) (ZR:List I3) (H:a.eval x=Z (T r) m d) (G:m=ZR.length) (B:ZR≠[]) (p:∀j u,(i3L ZR)[j]?=T u->w.cell? (r.add j)=T u) (hlen:L.length+ZR.length<=100000) (hb:b<=w.heap.size)
  (h:∀f i l,IR l b f i (L++ZR)->w.grownBy l (T g)->wpList Pg q ZN rest (a.put o.dst (Z (T (Q f 0 Y)) (L++ZR).length i)) l):wpList Pg q ZN (o::rest) a w:=by
 obtain⟨ZQ,hi,z,D,C⟩:=o7;subst G;refine BS _ ZS s x 41 ZP b 151 ZQ (ZH #[N I 0,U ⟨#[]⟩,N I 0]) 3 32 RP hi z D C rfl (by decide) _ L.length (i3L L) F t r ZR.length d (i3L ZR) H (jH ZR) p (xV ZR) (by unfold maxLen;omega) (by omega) hb ?_;intro K l n E _;have hp:0<ZR.length:=GC.2 B;have y:∃f i,K=Z (T (Q f 0 Y)) (L.length+ZR.length) i:=by
  rcases n.2 with ⟨_,h0⟩|⟨f,cap,cur,y,_⟩
  {omega};{exact⟨f,cap,y⟩}
 obtain⟨f,i,rfl⟩:=y;have e:(L++ZR).length=L.length+ZR.length:=cM;rw[<-e] at n ⊢;rw[<-qZ] at n;exact h f i l n E
def DI (w:M)(R q n:Nat)(e:Ending)(b:M):Prop:=∃(L:List I3) (g c:Nat),e=ZF (Z (T (Q g 0 Y)) L.length c)/\IR b w.heap.size g c L/\L≠[]/\L.length<=n/\(∀i∈L,i.2.1.length<=5000)/\∃f:Nat,f<=q/\Rd b R f/\Only R w b
theorem uz:∀(L:List I3) (i:Nat) (n:Int) (x:I3),L[i]?=T x->i3L (L.set i (x.1,x.2.1,n))=(i3L L).set (i*3+2) (N I n)
 |[],i,n,x,h=>by simp at h
 |y::L,0,n,x,h=>by simp at h;subst h;rfl
 |y::L,i+1,n,x,h=>by simp at h;have c:=uz L i n x h;have b:(i3V y).length=3:=rfl;rw[U0];show i3V y++i3L (L.set i (x.1,x.2.1,n))=(i3V y++i3L L).set ((i+1)*3+2) (N I n);rw[c,SN _ _ (by rw[b];omega),b,show(i+1)*3+2 - 3=i*3+2 by omega]
theorem IR.setN (h:IR w b g c L)(hi:i<L.length)(n:Int):∃j,j.length=L.length/\((∀x∈L,x.2.1.length<=5000)->∀x∈j,x.2.1.length<=5000)/\IR (w.setCell (Q g (i*3+2) Y) (N I n)) b g c j:=by
 have p:L[i]?=T L[i]:=gq hi;refine⟨L.set i (L[i].1,L[i].2.1,n),LB,λm x o=>?_,?_⟩;{rcases PI o with h1|h1;{exact m x h1};{rw[h1];exact m L[i] (gz hi)}}
 ·unfold IR;rw[LB,uz L i n L[i] p];refine⟨by rw[LB];exact h.1,?_⟩;rcases h.2 with ⟨f,h0⟩|⟨g',cap,l,f,hb,q,h1,h2,h3,h4⟩
  {simp at f};{simp only[OJ,OU,TX] at f;obtain⟨⟨rfl,-⟩,-,rfl⟩:=f;refine .inr ⟨g,c,l.setIfInBounds (i*3+2) (N I n),rfl,hb,?_,h1,h2,by simpa using h3,?_⟩;{simp[World.setCell,CP,q]};{rw[QY,VZ,h4]}}
theorem IR.cellN{f:Nat}(h:IR w f g c L)(hi:i<L.length):(∃v,A w (Q g (i*3+2) Y)=T (N I v))/\w.frozen? (Q g (i*3+2) Y)=ZA:=by
 have p:L[i]?=T L[i]:=gq hi;have m:∀(L:List I3) (i:Nat) (x:I3),L[i]?=T x->(i3L L)[i*3+2]?=T (N I x.2.2):=by
  intro L;induction L with
  |nil=>intro i x h;simp at h
  |cons y L o =>
   intro i x h;cases i with
   |zero=>simp at h;subst h;rfl
   |succ i =>simp at h;have l:(i3V y).length=3:=rfl;show(i3V y++i3L L)[(i+1)*3+2]?=_;rw[IX (by rw[l];omega),l,show(i+1)*3+2 - 3=i*3+2 by omega];exact o i x h
 have j:=UR h (g:=g) rfl _ _ (m L i L[i] p);rw[jd,FM] at j;refine⟨⟨_,j⟩,?_⟩;rcases h.2 with ⟨b,_⟩|⟨g',cap,cur,b,_,n,_⟩
 {simp at b};{simp only[OJ,OU,TX] at b;obtain⟨⟨rfl,-⟩,-,rfl⟩:=b;exact PC n _}
