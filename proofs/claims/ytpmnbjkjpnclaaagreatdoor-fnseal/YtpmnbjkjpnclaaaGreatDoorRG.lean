import Derived.Test.YtpmnbjkjpnclaaaGreatDoorSU
import Derived.Test.YtpmnbjkjpnclaaaGreatDoorSP
import Derived.Lib.Builder
import Derived.Laws.ResultCell
import Derived.Laws.Rows
import Derived.Laws.BitsAllLaws
set_option maxRecDepth 100000
set_option maxHeartbeats 8000000
set_option linter.unusedSimpArgs false
open Go renaming Addr.mk->Q,Value.slice->Z,Value.string->Y,Value.int->J,Obj.cells->N,IntKind.i64->I,World->M,Value->ZC,TypeId->ZH,Ending.returned->ZF,World.cell?->A,Proofs.Tryz.prog->Pg
open Option renaming none->U,some->T
open Bool renaming false->ZA
namespace Go.Proofs.YtpmnbjkjpnclaaaGreatDoor.Vp
open Tryz RowKit
variable {w f:M}{b R B g c n p i:Nat}{x y z:ZC}{L:List I3}{a:Option Addr}{fn:Func}{e:ZH}{op:Int}{s:List UInt8}
theorem wR (a b:Nat)(c:a<4611686018427387904)(hb:b<4611686018427387904):∃x:Nat,bits .xor I (a:Int) (b:Int)=x/\x<4611686018427387904:=by
 have hx:a ^^^ b<2 ^ 62:=Nat.xor_lt_two_pow (by omega) (by omega);refine⟨a ^^^ b,?_,by omega⟩;show IntKind.i64.wrap ((BitVec.ofInt 64 (a:Int) ^^^ BitVec.ofInt 64 (b:Int)).toNat:Int)=_;have e:∀x:Nat,x<4611686018427387904->(BitVec.ofInt 64 (x:Int)).toNat=x:=λx h=>by rw[BitVec.toNat_ofInt];omega
 rw[BitVec.toNat_xor,e a c,e b hb,p9];omega
def SlByte (w:M)(R:Nat)(a:Option Addr)(n:Nat):Prop:=n=0∨∃b off,a=T (Q b off U)/\b<R/\b<w.heap.size/\∀i,i<n->∃u:Nat,u<256/\A w (Q b (off+i) U)=T (J .u8 u)
theorem SlByte.F (h:SlByte w R a n)(g:Only R w f):SlByte f R a n:=by
 rcases h with h|⟨b,off,e,hb,j,l⟩
 {exact .inl h};{refine .inr ⟨b,off,e,hb,lj j g.size,λi hi=>?_⟩;obtain⟨u,m,c⟩:=l i hi;exact⟨u,m,(g.cell b _ j (by omega)).trans c⟩}
def Rd (w:M)(R p:Nat):Prop:=∃a n cap,R<w.heap.size/\n<=2000/\A w (Q R 0 U)=T (Z a n cap)/\(A w (Q R 1 U)=T (J I p)/\w.frozen? (Q R 1 U)=ZA)/\SlByte w R a n
theorem Rd.lt (h:Rd w R p):R<w.heap.size:=by obtain⟨_,_,_,h,_⟩:=h;exact h
theorem Rd.aa (h:Rd w R p)(hb:Below B w f)(c:w.heap.size<=B):Rd f R p:=by obtain⟨a,n,cap,b,hn,g,⟨h1,h2⟩,i⟩:=h;refine⟨a,n,cap,lj b hb.size,hn,(hb.cell (p:=(Q R 0 U)) (lj b c)).trans g,⟨(hb.cell (p:=(Q R 1 U)) (lj b c)).trans h1,(hb.frozen (p:=(Q R 1 U)) (lj b c)).trans h2⟩,?_⟩;exact i.F (Only.u (hb.mono c))
theorem Rd.low{j:M}(h:Rd w R p)(hb:Below B w j)(f:R<B):Rd j R p:=by
 obtain⟨a,n,cap,q,hn,m,⟨h1,h2⟩,o⟩:=h;refine⟨a,n,cap,lj q hb.size,hn,(hb.cell (p:=(Q R 0 U)) f).trans m,⟨(hb.cell (p:=(Q R 1 U)) f).trans h1,(hb.frozen (p:=(Q R 1 U)) f).trans h2⟩,?_⟩;rcases o with h|⟨b,off,e,g,l,r⟩
 {exact .inl h};{refine .inr ⟨b,off,e,g,lj l hb.size,λi hi=>?_⟩;obtain⟨u,s,c⟩:=r i hi;exact⟨u,s,(hb.cell (p:=(Q b _ U)) (Nat.lt_trans g f)).trans c⟩}
theorem Only.then{u v:M}(h:Only R u v)(k:Below u.heap.size v w):Only R u w :=
 ⟨k.os.trans h.os,k.tape.trans h.tape,k.output.trans h.output,p7 h.size k.size,λi hi c=>(k.block i hi).trans (h.block i hi c),λb t fz hb=>let ⟨cs1,h1⟩:=h.ty b t fz hb;⟨cs1,(k.block R (ag hb)).trans h1⟩⟩
theorem Rd.step (h:Rd w R p):Rd (w.setCell (Q R 1 U) (J I ((p:Int)+1))) R (p+1):=by obtain⟨a,n,cap,b,hn,c,⟨h1,h2⟩,f⟩:=h;refine⟨a,n,cap,by simpa using b,hn,(sq _ _ _ _ (by simp)).trans c,⟨?_,by simpa using h2⟩,f.F (ix (Only.refl R w) 1 _)⟩;rw[CX _ _ _ (by rw[h1];rfl)];rfl
theorem Ei (R p:Nat)(m:Int)(a:Option Addr)(cap:Nat)(w:M)(h0:A w (Q R 0 U)=T (Z a 0 cap))(h1:A w (Q R 1 U)=T (J I p))(h2:w.frozen? (Q R 1 U)=ZA)(hp:(p:Int)<=100000)(hm:1<=m):Calls Pg 40 #[.pointer (T (Q R 0 U)),J I m] w λe b=>e=ZF (J I 0)/\b=w.setCell (Q R 1 U) (J I ((p:Int)+1)):=by go_enter func40,ntmps40;go_wp2;go_ret;exact⟨rfl,rfl⟩
theorem GQ (R p:Nat)(m:Int)(b off n cap u:Nat)(w:M)(h0:A w (Q R 0 U)=T (Z (T (Q b off U)) n cap))(h1:A w (Q R 1 U)=T (J I p))(h2:w.frozen? (Q R 1 U)=ZA)(hp:(p:Int)<=100000)(hm:1<=m)(hm2:m<=1000000)
  (hlt:p<n) (hb:b<R) (hu:u<256) (g:A w (Q b (off+p) U)=T (J .u8 u)) :
  Calls Pg 40 #[.pointer (T (Q R 0 U)),J I m] w λe h=>∃z:Int,e=ZF (J I z)/\0<=z/\z<m/\h=w.setCell (Q R 1 U) (J I ((p:Int)+1)):=by
 have hc':(w.setCell (Q R 1 U) (J I ((p:Int)+1))).cell? (Q b (off+p) U)=T (J .u8 u):=(cell_far _ _ _ _ (by simp;omega)).trans g;obtain⟨z,hz,f,c⟩:∃z:Int,(u:Int).tmod m=z/\0<=z/\z<m:=⟨_,rfl,Int.tmod_nonneg _ (by omega),Int.tmod_lt_of_pos _ (by omega)⟩
 have hm0:¬ m=0:=by omega
 have hq:(decide (m<1) || ((n:Int) == 0))=ZA:=by simp;omega
 clear g;go_enter func40,ntmps40;go_wp2;go_ret;exact⟨z,rfl,f,c,rfl⟩
theorem Ej (R p:Nat)(m:Int)(b off n cap u v:Nat)(w:M)(D:A w (Q R 0 U)=T (Z (T (Q b off U)) n cap))(h1:A w (Q R 1 U)=T (J I p))(h2:w.frozen? (Q R 1 U)=ZA)(hp:(p:Int)<=100000)(hm:1<=m)(hm2:m<=1000000)
  (hlt:¬ p<n) (hn1:1<=n) (hn:n<=2000) (hb:b<R) (hu:u<256) (hv:v<256) (h:w.cell? ⟨b,off+p % n,U⟩=T (J .u8 u)) (l:w.cell? ⟨b,off+(p*7+3) % n,U⟩=T (J .u8 v)) :
  Calls Pg 40 #[.pointer (T (Q R 0 U)),J I m] w λe B=>∃z:Int,e=ZF (J I z)/\0<=z/\z<m/\Below (w.setCell (Q R 1 U) (J I ((p:Int)+1))).heap.size (w.setCell (Q R 1 U) (J I ((p:Int)+1))) B:=by
 obtain⟨i,hi⟩:∃i,i=p % n:=⟨_,rfl⟩
 obtain⟨j,g⟩:∃j,j=(p*7+3) % n:=⟨_,rfl⟩
 obtain⟨d,c⟩:∃d,d=p / n:=⟨_,rfl⟩
 have hi2:i<n:=by rw[hi];exact TX _ (by omega)
 have hj2:j<n:=by rw[g];exact TX _ (by omega)
 have hd2:d<=p:=by rw[c];exact Nat.div_le_self _ _
 have e1:(p:Int).tmod n=i:=by rw[hi];rfl
 have e2:((p:Int)*7+3).tmod n=j:=by rw[g];rfl
 have e3:(p:Int) / n=d:=by rw[c];rfl
 rw[<-hi] at h;rw[<-g] at l;have t:(w.setCell (Q R 1 U) (J I ((p:Int)+1))).cell? (Q b (off+i) U)=T (J .u8 u):=(cell_far _ _ _ _ (by simp;omega)).trans h;have r:(w.setCell (Q R 1 U) (J I ((p:Int)+1))).cell? (Q b (off+j) U)=T (J .u8 v):=(cell_far _ _ _ _ (by simp;omega)).trans l;have E:(w.setCell (Q R 1 U) (J I ((p:Int)+1))).cell? (Q R 0 U)=T (Z (T (Q b off U)) n cap):=(sq _ _ _ _ (by simp)).trans D;obtain⟨x,o,hx2⟩:∃x:Nat,(u:Int)*131+v*1117+p*29+d*53=x/\x<1000000000000:=⟨u*131+v*1117+p*29+d*53,by omega,by omega⟩
 obtain⟨y,f,hy2⟩:=wR x (x / 64) (by omega) (by omega);rw[show((x / 64:Nat):Int)=(x:Int) / 64 from rfl] at f;obtain⟨z,hz,q,s⟩:∃z:Int,(y:Int).tmod m=z/\0<=z/\z<m:=⟨_,rfl,Int.tmod_nonneg _ (by omega),Int.tmod_lt_of_pos _ (by omega)⟩
 have hm0:¬ m=0:=by omega
 have hq:(decide (m<1) || ((n:Int) == 0))=ZA:=by simp;omega
 have hn0:¬ (n:Int)=0:=by omega
 have hge:(n:Int)<=p:=by omega
 have F:=ae o;have C:=ae f;have G:=ae hz;clear hi g h l o f hz c;go_enter func40,ntmps40;go_wp2_with fail;go_quiet (fail);have ZR:=ae (BM (dB (w.setCell (Q R 1 U) (J I ((p:Int)+1))).heap.size (w.setCell (Q R 1 U) (J I ((p:Int)+1)))) nq);rw[F.out];clear t r E;generalize (w.setCell (Q R 1 U) (J I ((p:Int)+1))).drewN nq=W at ZR ⊢;have f:=C.out;have hz:=G.out;go_wp2;go_ret;exact⟨z,rfl,q,s,ZR⟩
theorem au (R p:Nat)(m:Int)(w:M)(hR:Rd w R p)(ZR:(p:Int)<=100000)(B:1<=m)(t:m<=1000000):Calls Pg 40 #[.pointer (T (Q R 0 U)),J I m] w λe f=>∃z:Int,e=ZF (J I z)/\0<=z/\z<m/\Rd f R (p+1)/\Only R w f:=by
 have hR':=hR;have q:=hR.step;have l:Only R w (w.setCell (Q R 1 U) (J I ((p:Int)+1))):=ix (Only.refl R w) 1 _;obtain⟨a,n,cap,hl,hn,x,⟨h1,h2⟩,F⟩:=hR;by_cases hz:n=0;{subst hz;exact(Ei R p m a cap w x h1 h2 ZR B).mono λe f ⟨j,g⟩=>⟨0,j,by omega,by omega,by rw[g];exact q,by rw[g];exact l⟩}
 ·rcases F with h|⟨b,off,rfl,hb,hbl,y⟩
  {exact absurd h hz};{by_cases r:p<n;{obtain⟨u,C,c⟩:=y p r;exact(GQ R p m b off n cap u w x h1 h2 ZR B t r hb C c).mono λe f ⟨z,j,i,o,g⟩=>⟨z,j,i,o,by rw[g];exact q,by rw[g];exact l⟩};{obtain⟨u,C,c⟩:=y (p % n) (TX _ (by omega));obtain⟨v,E,s⟩:=y ((p*7+3) % n) (TX _ (by omega));exact(Ej R p m b off n cap u v w x h1 h2 ZR B t r (by omega) hn hb C E c s).mono λe f ⟨z,j,i,o,D⟩=>⟨z,j,i,o,q.aa D ly,l.trans (Only.u D)⟩}}
def ByteSl (w:M)(a:Option Addr)(n:Nat):Prop:=n=0∨∃b off,a=T (Q b off U)/\b<w.heap.size/\∀i,i<n->∃u:Nat,u<256/\A w (Q b (off+i) U)=T (J .u8 u)
theorem ByteSl.aa (h:ByteSl w a n)(hb:Below B w f)(m:w.heap.size<=B):ByteSl f a n:=by
 rcases h with h|⟨b,off,e,g,j⟩
 {exact .inl h};{refine .inr ⟨b,off,e,lj g hb.size,λi hi=>?_⟩;obtain⟨u,l,c⟩:=j i hi;exact⟨u,l,(hb.cell (p:=(Q b _ U)) (lj g m)).trans c⟩}
theorem ut{k cap:Nat}(h:ByteSl w a n)(hk:k<=n)(f:k<=2000)(t:ZH):Rd (w.alloc (N #[Z a k cap,J I 0] t)) w.heap.size 0:=by
 refine⟨a,k,cap,by simp,f,by simp,⟨by simp,by simp⟩,?_⟩;rcases h with h|⟨b,off,e,g,j⟩
 {exact .inl (by omega)};{refine .inr ⟨b,off,e,g,by simp;omega,λi hi=>?_⟩;obtain⟨u,l,c⟩:=j i (by omega);exact⟨u,l,(((q9 w).alloc ly _).cell (p:=(Q b _ U)) g).trans c⟩}
theorem zd (b off n cap:Nat)(w:M)(hn:(n:Int)<=1048576)(hc:n<=cap)(f:ByteSl w (T (Q b off U)) n):Calls Pg 38 #[Z (T (Q b off U)) n cap] w λe c=>∃R,e=ZF (.pointer (T (Q R 0 U)))/\w.heap.size<=R/\Rd c R 0/\Below w.heap.size w c:=by
 have g:=ae f;clear f;by_cases h:(2000:Int)<n;all_goals
  go_enter func38,ntmps38;go_wp2;go_ret;first
   |exact⟨_,rfl,n6 _,ut g (k:=2000) (by omega) (by omega) _,br.alloc ly _⟩
   |exact⟨_,rfl,n6 _,ut g (k:=n) (by omega) (by omega) _,br.alloc ly _⟩
theorem ze (a:Option Addr)(cap:Nat)(w:M):Calls Pg 38 #[Z a 0 cap] w λe b=>∃R,e=ZF (.pointer (T (Q R 0 U)))/\w.heap.size<=R/\Rd b R 0/\Below w.heap.size w b:=by have c:Hid (ByteSl w a 0):=.inl rfl;go_enter func38,ntmps38;go_wp2;go_ret;exact⟨_,rfl,n6 _,ut c (k:=0) (by omega) (by omega) _,br.alloc ly _⟩
theorem lV (a:Option Addr)(n cap:Nat)(w:M)(hn:(n:Int)<=1048576)(h:n<=cap)(g:ByteSl w a n):Calls Pg 38 #[Z a n cap] w λe c=>∃R,e=ZF (.pointer (T (Q R 0 U)))/\w.heap.size<=R/\Rd c R 0/\Below w.heap.size w c:=by
 have f:=g;rcases g with rfl|⟨b,off,rfl,_,_⟩
 {exact ze a cap w};{exact zd b off n cap w hn h f}
theorem eP (s:ByteArray)(n:Nat)(w:M)(h:s.size*n<=4000)(hn:(n:Int)<=4000):Calls Pg 74 #[Y s,J I n] w λe r=>∃t:ByteArray,e=ZF (Y t)/\t.size<=s.size*n/\r=w:=by
 have H:=ae h;clear h;go_enter func74,ntmps74;go_wp2;go_loop [0,1,5] (λsv j u=>∃(x:ByteArray) (k:Nat) (o:ByteArray),sv=Y x/\j=J I k/\u=Y o/\(k:Int)<=4000/\Hid (o.size+x.size*k<=s.size*n)) (λ_ j _=>(intOf j).toNat);case atStart=>exact⟨s,n,⟨#[]⟩,rfl,rfl,rfl,hn,by show 0+s.size*n<=_;omega⟩
 case round =>
  obtain⟨x,k,o,rfl,rfl,rfl,hk,c⟩:=hrel;by_cases hz:(k:Int)=0
  ·obtain rfl:k=0:=by omega
   have m:o.size<=s.size*n:=by have:=c.out;omega
   have f:=ae m;clear m;go_wp2;go_ret;exact⟨o,rfl,f,rfl⟩
  ·have hpos:0<(k:Int):=by omega
   have q:x.size<=x.size*k:=Nat.le_mul_of_pos_right _ (by omega);have hx2:(x.size:Int)<=4000:=by have:=c.out;have:=H.out;omega
   have ho2:(o.size:Int)<=4000:=by have:=c.out;have:=H.out;omega
   have q5:(k:Int).tmod 2=(k:Int) % 2:=QN (by omega);have g:(x++x).size=x.size+x.size:=by simp
   have p:(o++x).size=o.size+x.size:=by simp
   have b:(x.size+x.size)*(k / 2)+x.size*(k % 2)=x.size*k:=by rw[show x.size*k=x.size*(2*(k / 2)+k % 2) by rw[Nat.div_add_mod]];rw[Nat.mul_add,<-Nat.mul_assoc,Nat.mul_two]
   have l:=ae b;clear b q;by_cases hodd:(k:Int) % 2=1
   ·have f:Hid (k % 2=1):=by show k % 2=1;omega
    go_wp2;refine⟨⟨x++x,k / 2,o++x,rfl,by go_num,rfl,by omega,?_⟩,by simp[intOf];omega⟩;show(o++x).size+(x++x).size*(k / 2)<=s.size*n;have:=c.out;have i:=l.out;rw[f.out,Nat.mul_one] at i;rw[g,p];omega
   ·have f:Hid (k % 2=0):=by show k % 2=0;omega
    go_wp2;refine⟨⟨x++x,k / 2,o,rfl,by go_num,rfl,by omega,?_⟩,by simp[intOf];omega⟩;show o.size+(x++x).size*(k / 2)<=s.size*n;have:=c.out;have i:=l.out;rw[f.out,Nat.mul_zero] at i;rw[g];omega
def CI (w:M)(b:Nat)(x y z:ZC):Prop:=w.heap[b]?=T (N #[x,y,z] 151 (0,0))
theorem CI.lt (h:CI w b x y z):b<w.heap.size:=(eT.1 h).1
theorem CI.c0 (h:CI w b x y z):A w (Q b 0 U)=T x:=by rw[HU h];rfl
theorem CI.c1 (h:CI w b x y z):A w (Q b 1 U)=T y:=by rw[HU h];rfl
theorem CI.c2 (h:CI w b x y z):A w (Q b 2 U)=T z:=by rw[HU h];rfl
theorem CI.fz (h:CI w b x y z)(j:Nat):w.frozen? (Q b j U)=ZA:=OP h j
theorem CI.aa{c:M}(h:CI w b x y z)(hb:Below B w c)(f:b<B):CI c b x y z:=(hb.block b f).trans h
theorem CI.new (w:M)(x y z:ZC):CI (w.alloc (N #[x,y,z] 151)) w.heap.size x y z:=nL w _
theorem CI.other (h:CI w b x y z)(p:Addr)(c:p.block≠b)(v:ZC):CI (w.setCell p v) b x y z:=by unfold CI at *;simp[World.setCell,CP,c,h]
theorem CI.set1 (h:CI w b x y z)(v:ZC):CI (w.setCell (Q b 1 U) v) b x v z:=by unfold CI at *;simp[World.setCell,CP,h]
theorem CI.set2 (h:CI w b x y z)(v:ZC):CI (w.setCell (Q b 2 U) v) b x y v:=by unfold CI at *;simp[World.setCell,CP,h]
theorem CI.set0 (h:CI w b x y z)(v:ZC):CI (w.setCell (Q b 0 U) v) b v y z:=by unfold CI at *;simp[World.setCell,CP,h]
theorem CI.all (h:CI w b x y z)(c f g:ZC):CI (((w.setCell (Q b 0 U) c).setCell (Q b 1 U) f).setCell (Q b 2 U) g) b c f g:=((h.set0 c).set1 f).set2 g
theorem xR:(Pg.info? 151).map (·.size)=T 3:=by kernel_rfl
theorem eI{p u:Tmp}(h:fn.results=#[.cell p 151,.tmp u])(tmps:Array ZC)(w:M)(g:Nat)(x y z:ZC)(c:tmps.getD p undef=.pointer (T (Q g 0 U)))(b:CI w g x y z):(results fn tmps).run Pg w=.ok (.tuple #[.agg #[x,y,z],tmps.getD u undef]) w:=by rw[results_cell_tmp h,c];simp[asAddr,run_loadVar_row w g 151 151 #[x,y,z] (0,0) _ b WP rfl xR,Result.andThen]
def i3V (i:I3):List ZC:=[J I i.1,Y ⟨i.2.1.toArray⟩,J I i.2.2]
def i3L (L:List I3):List ZC:=L.flatMap i3V
theorem jG:∀L:List I3,(i3L L).length=L.length*3
 |[]=>rfl
 |i::L=>by have:=jG L;simp only[i3L,J2,cM,eL] at this ⊢;rw[this];simp[i3V];omega
theorem Ek{j:Nat}{v:ZC}{f:List ZC}(h:w.ownsRow b e i v n f)(hR:R<b)(u:ZC):(w.setCell (Q R j U) u).ownsRow b e i v n f:=by
 refine⟨h.1,?_⟩;rcases h.2 with hn|⟨g,cap,c,l,o,m,r⟩
 {exact .inl hn}
 ·refine .inr ⟨g,cap,c,l,o,?_,r⟩;have:R≠g:=by omega
  simp[World.setCell,CP,this,m]
def PB (w:M)(b:Nat)(v:ZC):Prop:=w.heap[b]?=T (N #[v] 43 (0,0))
theorem PB.lt{v:ZC}(h:PB w b v):b<w.heap.size:=(eT.1 h).1
theorem PB.c0{v:ZC}(h:PB w b v):A w (Q b 0 U)=T v:=by rw[HU h];rfl
theorem PB.fz{v:ZC}(h:PB w b v)(j:Nat):w.frozen? (Q b j U)=ZA:=OP h j
theorem PB.aa{c:M}{v:ZC}(h:PB w b v)(hb:Below B w c)(f:b<B):PB c b v:=(hb.block b f).trans h
theorem PB.set{v:ZC}(h:PB w b v)(c:ZC):PB (w.setCell (Q b 0 U) c) b c:=by unfold PB at *;simp[World.setCell,CP,h]
theorem wT:(Pg.info? 43).map (·.size)=T 1:=by kernel_rfl
theorem uu (c:UInt8):(10:UInt8) ∉ enc c:=by refine un (p:=λc=>(10:UInt8) ∉ enc c) ?_ c;decide +kernel
theorem AY{k:Int}(h:1<=k/\k<=15):(10:UInt8) ∉ word k:=by rcases iz h with rfl|rfl|rfl|rfl|rfl|rfl|rfl|rfl|rfl|rfl|rfl|rfl|rfl|rfl|rfl<;>decide
theorem lW:∀n:Nat,(10:UInt8) ∉ Lib.decDigits n:=by
 intro n;induction n using Nat.strongRecOn with
 |ind n b =>
  rw[Lib.decDigits];split;{rename_i h;intro h2;have h3:=nD.1 h2;have h4:=wA UInt8.toNat h3;rw[NY] at h4;have c:(10:UInt8).toNat=10:=rfl;omega};{rename_i h;intro h2;rcases p8.1 h2 with h2|h2;{exact b (n / 10) (by omega) h2};{have h3:=nD.1 h2;have h4:=wA UInt8.toNat h3;rw[NY] at h4;have c:(10:UInt8).toNat=10:=rfl;omega}}
theorem AZ{n:Int}(h:aH op s.length n=true):(10:UInt8) ∉ aR op s n:=by
 obtain⟨h1,_⟩:=ed h;have f:=AY h1;unfold aR;intro b;split at b;{rw[dx] at b;rcases p8.1 b with b|b;{exact f b};{simp only[AT,p8,PV,nj,QZ] at b;rcases b with b|(b|⟨c,_,b⟩)|b;{exact absurd b (by decide)};{exact absurd b (by decide)};{exact uu c b};{exact absurd b (by decide)}}};{split at b;{exact f b};{rcases p8.1 b with b|b;{exact f b};{rcases AT.1 b with b|b;{exact absurd b (by decide)};{exact lW _ b}}}}
theorem GT{n:Int}(h:aH op s.length n=true):aR op s n≠[]:=by
 obtain⟨h1,_⟩:=ed h;have b:word op≠[]:=by rcases iz h1 with rfl|rfl|rfl|rfl|rfl|rfl|rfl|rfl|rfl|rfl|rfl|rfl|rfl|rfl|rfl<;>decide
 unfold aR;split;{simp};{split;{exact b};{simp}}
def qV (b:List UInt8):List ZC:=b.map λc=>J .u8 (c.toNat:Int)
theorem I9:(Pg.info? 5).map (λi=>(i.zero,i.size,i.bytes))=T (T (J .u8 0),1,1):=by kernel_rfl
theorem gw{size:Nat}{v:ZC}{j:List ZC}(h:w.ownsRow b e size v n j)(c:Only R w f)(hR:R<b):f.ownsRow b e size v n j:=by
 refine h.kept (row:=T R) ⟨c.os,c.tape,c.output,c.size,λk l i=>c.block k l (by simpa using i)⟩ ?_;rcases h.2 with ⟨rfl,_⟩|⟨g,cap,cur,rfl,hg,_⟩
 {exact .inl rfl};{right;simp[Value.ownBlock];omega}
theorem zi{z:Int}(b:0<=z)(h1:z<159):∃c:UInt8,97+z=(c.toNat:Int):=by obtain⟨k,rfl⟩:=AS b;refine⟨UInt8.ofNat (97+k),?_⟩;rw[NY];omega
theorem Bb (b:List UInt8)(c:UInt8):qV (b++[c])=qV b++[J .u8 (c.toNat:Int)]:=by simp[qV]
theorem El (b:List UInt8)(w:M)(g cap k:Nat)(h:b.length=k)(f:∀j (c:j<b.length),w.cell? (((Q g 0 U):Addr).add j)=T (J .u8 (b[j].toNat:Int))):(convert 22 9 (Z (T (Q g 0 U)) k cap)).run Pg w=.ok (Y ⟨b.toArray⟩) w:=by subst h;refine PR _ 22 9 5 (Q g 0 U) cap b IS L3 F3 ?_;intro j c;exact f j c
theorem gX (R p:Nat)(w:M)(hR:Rd w R p)(hp:(p:Int)<=50000):Calls Pg 90 #[.pointer (T (Q R 0 U))] w λe w'=>∃t:ByteArray,e=ZF (Y t)/\t.size<=8/\∃q:Nat,q<=p+8/\Rd w' R q/\Only R w w':=by
 have HR:=ae hR;clear hR;go_enter func90,ntmps90;go_wp2_with fail;refine(au R p 12 _ HR (by omega) (by omega) (by omega)).mono ?_;rintro e n ⟨z,rfl,hz0,hz1,D,G⟩;have x:=ae D;have ZN:=ae G;clear D G;by_cases h3:z=3
 ·subst h3;have S:=ae ((q9 n).alloc ly (N #[Y ⟨#[97,32,98]⟩,Y ⟨#[97,9,98,32,99]⟩] 9));have L:=ae (x.aa S ly);have k0:(n.alloc (N #[Y ⟨#[97,32,98]⟩,Y ⟨#[97,9,98,32,99]⟩] 9)).cell? (Q n.heap.size 0 U)=T (Y ⟨#[97,32,98]⟩):=by simp
  have ZI:(n.alloc (N #[Y ⟨#[97,32,98]⟩,Y ⟨#[97,9,98,32,99]⟩] 9)).cell? (Q n.heap.size 1 U)=T (Y ⟨#[97,9,98,32,99]⟩):=by simp
  go_wp2_with fail;refine(au R (p+1) 2 _ L (by omega) (by omega) (by omega)).mono ?_;rintro e f ⟨y,rfl,B,la,l,b⟩;have hl:=x.lt;have j0:=(b.cell n.heap.size 0 (by simp) (by omega)).trans k0;have j1:=(b.cell n.heap.size 1 (by simp) (by omega)).trans ZI;have ZP:=ae l;have ZR:=ae ((ZN.trans (Only.u S)).trans b);clear l b k0 ZI S;rcases(show y=0∨y=1 by omega) with rfl|rfl;all_goals
   go_wp2;go_ret;exact⟨_,rfl,by decide,p+1+1,by omega,ZP,ZR⟩
 by_cases h6:z<6
 ·rcases(show z=0∨z=1∨z=2∨z=4∨z=5 by omega) with rfl|rfl|rfl|rfl|rfl;all_goals
   go_wp2;go_ret;exact⟨_,rfl,by decide,p+1,by omega,x,ZN⟩
 have n0:¬ z=0:=by omega
 have n1:¬ z=1:=by omega
 have n2:¬ z=2:=by omega
 have n4:¬ z=4:=by omega
 have n5:¬ z=5:=by omega
 go_wp2_with fail;refine(au R (p+1) 5 _ x (by omega) (by omega) (by omega)).mono ?_;rintro e f ⟨y,rfl,B,la,l,b⟩;have L:=ae l;have O2:=ae (ZN.trans b);have E:=l.lt;clear l b;have A2:=ae ((q9 f).alloc ly (N #[] 5));have W2:=ae (PS f #[] 0 (e:=5) (size:=1) (n6 f.heap.size) (by unfold maxLen;omega) rfl);obtain⟨m,rfl⟩:=AS B;obtain⟨bt,hi,dg,fd,V⟩:=L8 I9;go_wp2;go_loopw [4,5] (λv i wr=>∃(k:Nat) (h:List UInt8),k<=m+1/\i=J I k/\Hid (h.length=k)/\Hid (wr.ownsRow f.heap.size 5 1 v k (qV h))/\Hid (Rd wr R (p+2+k))/\Hid (Only R f wr)) (λ_ i _=>m+1 - (intOf i).toNat);case atStart=>exact⟨0,[],by omega,rfl,rfl,W2,L.aa A2 ly,Only.u A2⟩
 case round =>
  obtain⟨k,h,hk,rfl,ZO,O,ZJ,ZQ⟩:=hrel;have hsz:f.heap.size<=wr.heap.size:=ZQ.size;by_cases hlt:(k:Int)<=m;{go_wp2_with fail;refine(au R (p+2+k) 4 _ ZJ (by omega) (by omega) (by omega)).mono ?_;rintro e K ⟨c,rfl,W,hc1,H,r⟩;obtain⟨C,hC⟩:=zi W (by omega);have ZP:=ae H;have ZR:=ae (ZQ.trans r);have F:=ae (gw O r E);have ZM:f.heap.size<=K.heap.size:=ZR.size;clear H r;go_wp2_with (at_builtin;refine BS _ rfl (.tmp 33) (.tmp 38) 22 rfl f.heap.size 5 bt (J .u8 0) 1 1 IS hi dg fd V rfl (by decide) _ k (qV h) (by simp[Act.eval]) (F.alloc _) (Q K.heap.size 0 U) 1 1 [J .u8 (C.toNat:Int)] (by simp[Act.eval]) rfl (cu _ _ _) (by simp[Value.oneCell']) (by unfold maxLen;omega) (by omega) (by simp;omega) ?_;intro v' w4 u o P;have O4:=ae u;have ZK:=ae (bg ((dB f.heap.size K).alloc ZM (N #[J .u8 (C.toNat:Int)] 5)) o (by simp;omega) (λj e=>(F.lt j e).1));clear u o P);refine⟨⟨k+1,h++[C],by omega,by go_num,by show(h++[C]).length=k+1;simp[ZO.out],?_,?_,ZR.then ZK.out⟩,by simp[intOf];omega⟩;{show World.ownsRow _ _ _ _ _ _ _;rw[Bb];exact O4};{exact ZP.low ZK E}}
  ·have O5:=ae (O2.trans ZQ);obtain⟨g,cap,rfl⟩:=dq O (by omega);have aq:=El h wr g cap k ZO.out (λj hj=>O.cells (g:=g) rfl j _ (by simp[qV,hj]));have s:(⟨h.toArray⟩:ByteArray).size<=8:=by show h.toArray.size<=8;have:=ZO.out;simp;omega
   have X:=ae s;generalize (⟨h.toArray⟩:ByteArray)=ZL at aq X;clear s;go_wp2;go_ret;exact⟨ZL,rfl,X,p+2+k,by omega,ZJ,O5⟩
theorem Bc (W:M)(y:Nat)(hy:y<10):∃ZL:ByteArray,ZL.size<=3/\(W.alloc (N #[Y ⟨#[32]⟩,Y ⟨#[10]⟩,Y ⟨#[34]⟩,Y ⟨#[92]⟩,Y ⟨#[48]⟩,Y ⟨#[120]⟩,Y ⟨#[92,52]⟩,Y ⟨#[101,110,100]⟩,Y ⟨#[92,122,122]⟩,Y ⟨#[92,70,70]⟩] 9)).cell? (Q W.heap.size y U)=T (Y ZL):=by rcases(show y=0∨y=1∨y=2∨y=3∨y=4∨y=5∨y=6∨y=7∨y=8∨y=9 by omega) with rfl|rfl|rfl|rfl|rfl|rfl|rfl|rfl|rfl|rfl;all_goals refine⟨_,?_,by simp;rfl⟩;decide
theorem uv (C:UInt8):(⟨#[C]⟩:ByteArray).size=1:=rfl
theorem Be (C:UInt8):IntKind.u8.wrap (C.toNat:Int)=C.toNat:=by have:=C.toNat_lt;rw[TG];omega
theorem byte_of{c:Int}(b:0<=c)(h1:c<256):∃C:UInt8,c=(C.toNat:Int):=by obtain⟨k,rfl⟩:=AS b;refine⟨UInt8.ofNat k,?_⟩;rw[NY];omega
theorem zj (R p:Nat)(s:ByteArray)(w:M)(hR:Rd w R p)(hp:(p:Int)<=50000)(hs:(s.size:Int)<=400000):Calls Pg 83 #[.pointer (T (Q R 0 U)),Y s] w λe E=>∃t:ByteArray,e=ZF (Y t)/\(t.size:Int)<=2*s.size+20/\∃q:Nat,q<=p+8/\Rd E R q/\Only R w E:=by
 have ZQ:=ae hR;clear hR;go_enter func83,ntmps83;go_wp2_with fail;refine(au R p ((s.size:Int)+1) _ ZQ (by omega) (by omega) (by omega)).mono ?_;rintro e w1 ⟨i,rfl,G,hi1,x,u⟩;have L:=ae x;have ZO:=ae u;clear x u;obtain⟨i,rfl⟩:=AS G;have hA:(s.extract 0 i).size=i:=by simp;omega
 have hB:(s.extract i s.size).size=s.size - i:=by simp
 go_wp2_with fail;refine(au R (p+1) 5 _ L (by omega) (by omega) (by omega)).mono ?_;rintro e b ⟨z,rfl,hz0,hz1,r,o⟩;have h:=ae r;have g:=ae (ZO.trans o);clear r o;have hl:=h.lt;rcases(show z=0∨z=1∨z=2∨z=3∨z=4 by omega) with rfl|rfl|rfl|rfl|rfl;{go_wp2;go_ret;exact⟨_,rfl,by omega,p+1+1,by omega,h,g⟩}
 ·go_wp2_with fail;go_region_with (go_at_call 40;refine(au R (p+1+1) 10 _ ?_ (by omega) (by omega) (by omega)).mono ?_;exact h.aa (B:=b.heap.size) (by repeat (first|exact dB _ _|(refine SW ?_)|(refine TY ?_ (by simp) _))) ly;rintro e j ⟨y,rfl,F,hy1,l,f⟩;obtain⟨y,rfl⟩:=AS F;have m:=ae l;have n:Hid (Only R b j):=(Only.u (w:=b) (by repeat (first|exact dB _ _|(refine SW ?_)|(refine TY ?_ (by simp) _)))).trans f;(first|(obtain⟨ZL,O,D⟩:=Bc b.drew y (by omega);replace D:=(f.cell b.heap.size y (by simp) (by omega)).trans D)|obtain⟨ZL,O,D⟩:=Bc j y (by omega));clear l f);all_goals
   go_wp2;go_ret;first
    |exact⟨_,rfl,by simp;omega,p+1+1+1,by omega,m,g.trans n⟩
    |exact⟨_,rfl,by simp;omega,p+1+1+1,by omega,m.aa (B:=j.heap.size) (by repeat (first|exact dB _ _|(refine SW ?_)|(refine TY ?_ (by simp) _))) ly,(g.trans n).trans (Only.u (w:=j) (by repeat (first|exact dB _ _|(refine SW ?_)|(refine TY ?_ (by simp) _))))⟩
 ·by_cases ZN:(i:Int)<s.size
  ·have K:(s.extract (i+1) s.size).size=s.size - (i+1):=by simp
   go_wp2_with fail;go_quiet (fail);have ZR:=ae (BM (q9 b) nq);generalize b.drewN nq=W at ZR ⊢;go_wp2;go_ret;exact⟨_,rfl,by simp;omega,p+1+1,by omega,h.aa ZR ly,g.trans (Only.u ZR)⟩
  {go_wp2;go_ret;exact⟨_,rfl,by simp;omega,p+1+1,by omega,h,g⟩}
 ·by_cases ZN:(i:Int)<s.size
  ·have K:(s.extract (i+1) s.size).size=s.size - (i+1):=by simp
   have hltN:i<s.size:=by omega
   have hw1:IntKind.i64.wrap ((i:Int)+1)=(i:Int)+1:=by rw[p9];omega
   go_wp2_with fail;go_region_with (go_at_call 40;refine(au R (p+1+1) 256 _ ?_ (by omega) (by omega) (by omega)).mono ?_;exact h.aa (B:=b.heap.size) (by repeat (first|exact dB _ _|(refine SW ?_)|(refine TY ?_ (by simp) _))) ly;rintro e j ⟨c,rfl,H,ZP,l,f⟩;obtain⟨C,rfl⟩:=byte_of H ZP;have hcv:=oP (C.toNat:Int) C rfl;have hwr:=Be C;have m:=ae l;have n:Hid (Only R b j):=(Only.u (w:=b) (by repeat (first|exact dB _ _|(refine SW ?_)|(refine TY ?_ (by simp) _)))).trans f;clear l f);all_goals
    go_wp2;go_ret;first
     |exact⟨_,rfl,by simp[uv];omega,p+1+1+1,by omega,m,g.trans n⟩
     |exact⟨_,rfl,by simp[uv];omega,p+1+1+1,by omega,m.aa (B:=j.heap.size) (by repeat (first|exact dB _ _|(refine SW ?_)|(refine TY ?_ (by simp) _))) ly,(g.trans n).trans (Only.u (w:=j) (by repeat (first|exact dB _ _|(refine SW ?_)|(refine TY ?_ (by simp) _))))⟩
  {go_wp2;go_ret;exact⟨_,rfl,by simp;omega,p+1+1,by omega,h,g⟩}
 {go_wp2;go_ret;exact⟨_,rfl,by simp;omega,p+1+1,by omega,h,g⟩}
theorem oW{p:Tmp}(h:fn.results=#[.cell p 151])(tmps:Array ZC)(w:M)(g:Nat)(x y z:ZC)(c:tmps.getD p undef=.pointer (T (Q g 0 U)))(b:CI w g x y z):(results fn tmps).run Pg w=.ok (.agg #[x,y,z]) w :=
 results_cell_row h tmps w g 151 #[x,y,z] (0,0) _ c b WP rfl xR
theorem bm (s:ByteArray)(w:M):Calls Pg 98 #[Y s] w λe b=>e=ZF (.agg #[J I 1,Y s,J I 0])/\Below w.heap.size w b:=by
 go_enter func98,ntmps98;go_wp2;try simp only[Exit.inBlock,Exit.then]
 refine bp (oW rfl _ _ w.heap.size _ _ _ rfl (CI.new w _ _ _)) rfl ?_;exact⟨rfl,br.alloc ly _⟩
theorem aW (op:Int)(w:M):Calls Pg 99 #[J I op] w λe b=>e=ZF (.agg #[J I op,Y ⟨#[]⟩,J I 0])/\Below w.heap.size w b:=by
 go_enter func99,ntmps99;go_wp2;try simp only[Exit.inBlock,Exit.then]
 refine bp (oW rfl _ _ w.heap.size _ _ _ rfl (CI.new w _ _ _)) rfl ?_;exact⟨rfl,br.alloc ly _⟩
theorem bw (op n:Int)(w:M):Calls Pg 147 #[J I op,J I n] w λe b=>e=ZF (.agg #[J I op,Y ⟨#[]⟩,J I n])/\Below w.heap.size w b:=by
 go_enter func147,ntmps147;go_wp2;try simp only[Exit.inBlock,Exit.then]
 refine bp (oW rfl _ _ w.heap.size _ _ _ rfl (CI.new w _ _ _)) rfl ?_;exact⟨rfl,br.alloc ly _⟩
theorem oq (n:Int)(w:M):Calls Pg 227 #[J I n] w λe b=>e=ZF (J I (if 200<n then 200 else n))/\b=w:=by
 by_cases h:200<n;{rw[p6 h];go_enter func227,ntmps227;go_wp2;go_ret;exact⟨rfl,rfl⟩};{rw[gM h];go_enter func227,ntmps227;go_wp2;go_ret;exact⟨rfl,rfl⟩}
theorem ef (R p:Nat)(w:M)(hR:Rd w R p)(hp:(p:Int)<=90000):Calls Pg 87 #[.pointer (T (Q R 0 U))] w λe i=>∃t:ByteArray,e=ZF (Y t)/\t.size<=30/\Rd i R (p+1)/\Only R w i:=by
 have l:=ae hR;clear hR;go_enter func87,ntmps87;go_wp2_with fail;refine(au R p 16 _ l (by omega) (by omega) (by omega)).mono ?_;rintro e w1 ⟨z,rfl,hz0,hz1,f,c⟩;have g:=ae f;have h:=ae c;clear f c;by_cases h6:z<6
 ·rcases(show z=0∨z=1∨z=2∨z=3∨z=4∨z=5 by omega) with rfl|rfl|rfl|rfl|rfl|rfl;all_goals
   go_wp2;go_ret;exact⟨_,rfl,by decide,g,h⟩
 ·by_cases h14:z<14
  ·obtain⟨m,rfl⟩:∃m:Nat,z=(m:Int)+6:=⟨(z - 6).toNat,by omega⟩
   have hm:m<=7:=by omega
   have DC:=ae (λV=>gC m (by omega) V);have hd:=nN m (by omega);go_wp2_with fail;refine(DC _).mono ?_;rintro e w2 ⟨rfl,b⟩;have n:=ae (g.aa b ly);have j:=ae (h.trans (Only.u b));clear b;go_wp2;go_ret;exact⟨_,rfl,by rw[IH];show 1+(Lib.decDigits m).length<=30;omega,n,j⟩
  {go_wp2;go_ret;exact⟨_,rfl,by decide,g,h⟩}
theorem oX:∃i,Pg.info? 151=T i/\i.zero=T (.agg #[J I 0,Y ⟨#[]⟩,J I 0])/\i.size=3/\i.bytes=32:=by obtain⟨i,hi,hz⟩:=OB.1 li;simp only[LK] at hz;exact⟨i,hi,hz⟩
def IR (w:M)(b g c:Nat)(L:List I3):Prop:=w.ownsRow b 151 3 (Z (T (Q g 0 U)) L.length c) L.length (i3L L)
theorem IR.aa (h:IR w b g c L)(hb:Below B w f)(i:w.heap.size<=B):IR f b g c L:=own_below h hb i
theorem IR.lt (h:IR w b g c L):b<=g/\g<w.heap.size:=RV h g rfl
theorem IR.F (h:IR w b g c L)(i:Only R w f)(hR:R<b):IR f b g c L:=gw h i hR
theorem IR.lit (w:M):IR (w.alloc (N #[] 151)) w.heap.size w.heap.size 0 [] :=
 ⟨by simp[i3L],.inr ⟨w.heap.size,0,#[],rfl,n6 _,nL w _,n6 _,by unfold maxLen;omega,by simp,by simp[i3L]⟩⟩
theorem qW (L ZQ:List I3):i3L (L++ZQ)=i3L L++i3L ZQ:=by simp[i3L]
theorem xS (L:List I3):∀u∈i3L L,u.oneCell'=true:=by intro u b;simp only[i3L,PV,i3V] at b;obtain⟨x,_,c⟩:=b;simp at c;rcases c with rfl|rfl|rfl<;>simp[Value.oneCell']
theorem jc (b off j:Nat):((Q b off U):Addr).add j=(Q b (off+j) U):=by unfold Addr.add;split<;>simp_all
theorem dy (w:M)(b:Array ZC)(t:ZH):∀j u,b.toList[j]?=T u->(w.alloc (N b t)).cell? (((Q w.heap.size 0 U):Addr).add j)=T u:=by intro j u c;rw[jc,FM];exact jj w b t w.heap.size j u rfl (by simpa using c)
theorem IR.news (h:IR w b g c L):∀j u,(i3L L)[j]?=T u->w.cell? (((Q g 0 U):Addr).add j)=T u:=λj u f=>UJ h (g:=g) rfl j u f
theorem gI{q:Array Oper}{rest:List Oper}{o:Oper}{a:Act}{ZM:Exit->Act->M->Prop}(z:o.guard=U)(s x:Operand)
  (ZN:o.op=.call { callee:=.builtin .append,args:=#[s,x],argTypes:=#[41,41] }) (b g c:Nat) (L:List I3) (F:a.eval s=Z (T (Q g 0 U)) L.length c) (t:IR w b g c L)
  (y:Addr) (m d:Nat) (ZQ:List I3) (E:a.eval x=Z (T y) m d) (K:m=ZQ.length) (C:ZQ≠[]) (n:∀j u,(i3L ZQ)[j]?=T u->w.cell? (y.add j)=T u) (hlen:L.length+ZQ.length<=100000) (hb:b<=w.heap.size)
  (h:∀f i l,IR l b f i (L++ZQ)->w.grownBy l (T g)->wpList Pg q ZM rest (a.put o.dst (Z (T (Q f 0 U)) (L++ZQ).length i)) l):wpList Pg q ZM (o::rest) a w:=by
 obtain⟨ZP,hi,ZR,B,D⟩:=oX;subst K;refine BS _ z s x 41 ZN b 151 ZP (.agg #[J I 0,Y ⟨#[]⟩,J I 0]) 3 32 RB hi ZR B D rfl (by decide) _ L.length (i3L L) F t y ZQ.length d (i3L ZQ) E (jG ZQ) n (xS ZQ) (by unfold maxLen;omega) (by omega) hb ?_;intro H l p G _;have hp:0<ZQ.length:=GC.2 C;have r:∃f i,H=Z (T (Q f 0 U)) (L.length+ZQ.length) i:=by
  rcases p.2 with ⟨_,h0⟩|⟨f,cap,cur,r,_⟩
  {omega};{exact⟨f,cap,r⟩}
 obtain⟨f,i,rfl⟩:=r;have e:(L++ZQ).length=L.length+ZQ.length:=cM;rw[<-e] at p ⊢;rw[<-qW] at p;exact h f i l p G
def DI (w:M)(R q n:Nat)(e:Ending)(b:M):Prop:=∃(L:List I3) (g c:Nat),e=ZF (Z (T (Q g 0 U)) L.length c)/\IR b w.heap.size g c L/\L≠[]/\L.length<=n/\(∀i∈L,i.2.1.length<=5000)/\∃f:Nat,f<=q/\Rd b R f/\Only R w b
theorem uw:∀(L:List I3) (i:Nat) (n:Int) (x:I3),L[i]?=T x->i3L (L.set i (x.1,x.2.1,n))=(i3L L).set (i*3+2) (J I n)
 |[],i,n,x,h=>by simp at h
 |y::L,0,n,x,h=>by simp at h;subst h;rfl
 |y::L,i+1,n,x,h=>by simp at h;have c:=uw L i n x h;have b:(i3V y).length=3:=rfl;rw[UU];show i3V y++i3L (L.set i (x.1,x.2.1,n))=(i3V y++i3L L).set ((i+1)*3+2) (J I n);rw[c,SD _ _ (by rw[b];omega),b,show(i+1)*3+2 - 3=i*3+2 by omega]
theorem IR.setN (h:IR w b g c L)(hi:i<L.length)(n:Int):∃j,j.length=L.length/\((∀x∈L,x.2.1.length<=5000)->∀x∈j,x.2.1.length<=5000)/\IR (w.setCell (Q g (i*3+2) U) (J I n)) b g c j:=by
 have o:L[i]?=T L[i]:=gq hi;refine⟨L.set i (L[i].1,L[i].2.1,n),KK,λl x p=>?_,?_⟩;{rcases OV p with h1|h1;{exact l x h1};{rw[h1];exact l L[i] (gz hi)}}
 ·unfold IR;rw[KK,uw L i n L[i] o];refine⟨by rw[KK];exact h.1,?_⟩;rcases h.2 with ⟨f,h0⟩|⟨g',cap,m,f,hb,q,h1,h2,h3,h4⟩
  {simp at f};{simp only[N1,OJ,TP] at f;obtain⟨⟨rfl,-⟩,-,rfl⟩:=f;refine .inr ⟨g,c,m.setIfInBounds (i*3+2) (J I n),rfl,hb,?_,h1,h2,by simpa using h3,?_⟩;{simp[World.setCell,CP,q]};{rw[QR,VT,h4]}}
theorem IR.cellN{f:Nat}(h:IR w f g c L)(hi:i<L.length):(∃v,A w (Q g (i*3+2) U)=T (J I v))/\w.frozen? (Q g (i*3+2) U)=ZA:=by
 have n:L[i]?=T L[i]:=gq hi;have m:∀(L:List I3) (i:Nat) (x:I3),L[i]?=T x->(i3L L)[i*3+2]?=T (J I x.2.2):=by
  intro L;induction L with
  |nil=>intro i x h;simp at h
  |cons y L o =>
   intro i x h;cases i with
   |zero=>simp at h;subst h;rfl
   |succ i =>simp at h;have j:(i3V y).length=3:=rfl;show(i3V y++i3L L)[(i+1)*3+2]?=_;rw[IX (by rw[j];omega),j,show(i+1)*3+2 - 3=i*3+2 by omega];exact o i x h
 have l:=UJ h (g:=g) rfl _ _ (m L i L[i] n);rw[jc,FM] at l;refine⟨⟨_,l⟩,?_⟩;rcases h.2 with ⟨b,_⟩|⟨g',cap,cur,b,_,p,_⟩
 {simp at b};{simp only[N1,OJ,TP] at b;obtain⟨⟨rfl,-⟩,-,rfl⟩:=b;exact OP p _}
