import Derived.Test.YtoddkejemcbkmaaGreatDoorSU
import Derived.Test.YtoddkejemcbkmaaGreatDoorSL
import Derived.Lib.Builder
import Derived.Laws.ResultCell
import Derived.Laws.Rows
import Derived.Laws.BitsAllLaws
set_option maxRecDepth 100000
set_option maxHeartbeats 8000000
set_option linter.unusedSimpArgs false
open Go renaming Addr.mk->Q,Value.slice->Z,Value.string->U,Value.int->J,Obj.cells->N,IntKind.i64->I,World->M,Value->ZC,TypeId->ZH,Ending.returned->ZF,World.cell?->A,Proofs.Tryz.prog->Pg
open Option renaming none->Y,some->T
open Bool renaming false->ZA
namespace Go.Proofs.YtoddkejemcbkmaaGreatDoor.Vp
open Tryz RowKit
variable {w f j:M}{b R B g c n p i:Nat}{x y z:ZC}{L:List I3}{a:Option Addr}{fn:Func}{e:ZH}{op:Int}{s:List UInt8}
theorem vH (a b:Nat)(c:a<4611686018427387904)(hb:b<4611686018427387904):∃x:Nat,bits .xor I (a:Int) (b:Int)=x/\x<4611686018427387904:=by
 have hx:a ^^^ b<2 ^ 62:=Nat.xor_lt_two_pow (by omega) (by omega);refine⟨a ^^^ b,?_,by omega⟩;show IntKind.i64.wrap ((BitVec.ofInt 64 (a:Int) ^^^ BitVec.ofInt 64 (b:Int)).toNat:Int)=_;have e:∀x:Nat,x<4611686018427387904->(BitVec.ofInt 64 (x:Int)).toNat=x:=λx h=>by rw[BitVec.toNat_ofInt];omega
 rw[BitVec.toNat_xor,e a c,e b hb,wA];omega
def SlByte (w:M)(R:Nat)(a:Option Addr)(n:Nat):Prop:=n=0∨∃b off,a=T (Q b off Y)/\b<R/\b<w.heap.size/\∀i,i<n->∃u:Nat,u<256/\A w (Q b (off+i) Y)=T (J .u8 u)
theorem SlByte.F (h:SlByte w R a n)(g:Only R w j):SlByte j R a n:=by
 rcases h with h|⟨b,off,e,hb,f,m⟩
 {exact .inl h};{refine .inr ⟨b,off,e,hb,lj f g.size,λi hi=>?_⟩;obtain⟨u,l,c⟩:=m i hi;exact⟨u,l,(g.cell b _ f (by omega)).trans c⟩}
def Rd (w:M)(R p:Nat):Prop:=∃a n cap,R<w.heap.size/\n<=2000/\A w (Q R 0 Y)=T (Z a n cap)/\(A w (Q R 1 Y)=T (J I p)/\w.frozen? (Q R 1 Y)=ZA)/\SlByte w R a n
theorem Rd.lt (h:Rd w R p):R<w.heap.size:=by obtain⟨_,_,_,h,_⟩:=h;exact h
theorem Rd.aa (h:Rd w R p)(hb:Below B w f)(c:w.heap.size<=B):Rd f R p:=by obtain⟨a,n,cap,b,hn,i,⟨h1,h2⟩,g⟩:=h;refine⟨a,n,cap,lj b hb.size,hn,(hb.cell (p:=(Q R 0 Y)) (lj b c)).trans i,⟨(hb.cell (p:=(Q R 1 Y)) (lj b c)).trans h1,(hb.frozen (p:=(Q R 1 Y)) (lj b c)).trans h2⟩,?_⟩;exact g.F (Only.u (hb.mono c))
theorem Rd.low{l:M}(h:Rd w R p)(hb:Below B w l)(f:R<B):Rd l R p:=by
 obtain⟨a,n,cap,o,hn,r,⟨h1,h2⟩,m⟩:=h;refine⟨a,n,cap,lj o hb.size,hn,(hb.cell (p:=(Q R 0 Y)) f).trans r,⟨(hb.cell (p:=(Q R 1 Y)) f).trans h1,(hb.frozen (p:=(Q R 1 Y)) f).trans h2⟩,?_⟩;rcases m with h|⟨b,off,e,g,j,s⟩
 {exact .inl h};{refine .inr ⟨b,off,e,g,lj j hb.size,λi hi=>?_⟩;obtain⟨u,q,c⟩:=s i hi;exact⟨u,q,(hb.cell (p:=(Q b _ Y)) (Nat.lt_trans g f)).trans c⟩}
theorem Only.then{u v:M}(h:Only R u v)(k:Below u.heap.size v w):Only R u w :=
 ⟨k.os.trans h.os,k.tape.trans h.tape,k.output.trans h.output,p9 h.size k.size,λi hi b=>(k.block i hi).trans (h.block i hi b),λc t fz hb=>let ⟨cs1,h1⟩:=h.ty c t fz hb;⟨cs1,(k.block R (ah hb)).trans h1⟩⟩
theorem Rd.step (h:Rd w R p):Rd (w.setCell (Q R 1 Y) (J I ((p:Int)+1))) R (p+1):=by obtain⟨a,n,cap,f,hn,c,⟨h1,h2⟩,b⟩:=h;refine⟨a,n,cap,by simpa using f,hn,(sq _ _ _ _ (by simp)).trans c,⟨?_,by simpa using h2⟩,b.F (ip (Only.refl R w) 1 _)⟩;rw[DN _ _ _ (by rw[h1];rfl)];rfl
theorem CR (R p:Nat)(m:Int)(a:Option Addr)(cap:Nat)(w:M)(h0:A w (Q R 0 Y)=T (Z a 0 cap))(h1:A w (Q R 1 Y)=T (J I p))(h2:w.frozen? (Q R 1 Y)=ZA)(hp:(p:Int)<=100000)(hm:1<=m):Calls Pg 20 #[.pointer (T (Q R 0 Y)),J I m] w λe b=>e=ZF (J I 0)/\b=w.setCell (Q R 1 Y) (J I ((p:Int)+1)):=by go_enter func20,ntmps20;go_wp2;go_ret;exact⟨rfl,rfl⟩
theorem FV (R p:Nat)(m:Int)(b off n cap u:Nat)(w:M)(h0:A w (Q R 0 Y)=T (Z (T (Q b off Y)) n cap))(h1:A w (Q R 1 Y)=T (J I p))(h2:w.frozen? (Q R 1 Y)=ZA)(hp:(p:Int)<=100000)(hm:1<=m)(hm2:m<=1000000)
  (hlt:p<n) (hb:b<R) (hu:u<256) (f:A w (Q b (off+p) Y)=T (J .u8 u)) :
  Calls Pg 20 #[.pointer (T (Q R 0 Y)),J I m] w λe h=>∃z:Int,e=ZF (J I z)/\0<=z/\z<m/\h=w.setCell (Q R 1 Y) (J I ((p:Int)+1)):=by
 have hc':(w.setCell (Q R 1 Y) (J I ((p:Int)+1))).cell? (Q b (off+p) Y)=T (J .u8 u):=(cell_far _ _ _ _ (by simp;omega)).trans f;obtain⟨z,hz,c,g⟩:∃z:Int,(u:Int).tmod m=z/\0<=z/\z<m:=⟨_,rfl,Int.tmod_nonneg _ (by omega),Int.tmod_lt_of_pos _ (by omega)⟩
 have hm0:¬ m=0:=by omega
 have hq:(decide (m<1) || ((n:Int) == 0))=ZA:=by simp;omega
 clear f;go_enter func20,ntmps20;go_wp2;go_ret;exact⟨z,rfl,c,g,rfl⟩
theorem CS (R p:Nat)(m:Int)(b off n cap u v:Nat)(w:M)(B:A w (Q R 0 Y)=T (Z (T (Q b off Y)) n cap))(h1:A w (Q R 1 Y)=T (J I p))(h2:w.frozen? (Q R 1 Y)=ZA)(hp:(p:Int)<=100000)(hm:1<=m)(hm2:m<=1000000)
  (hlt:¬ p<n) (hn1:1<=n) (hn:n<=2000) (hb:b<R) (hu:u<256) (hv:v<256) (l:w.cell? ⟨b,off+p % n,Y⟩=T (J .u8 u)) (h:w.cell? ⟨b,off+(p*7+3) % n,Y⟩=T (J .u8 v)) :
  Calls Pg 20 #[.pointer (T (Q R 0 Y)),J I m] w λe C=>∃z:Int,e=ZF (J I z)/\0<=z/\z<m/\Below (w.setCell (Q R 1 Y) (J I ((p:Int)+1))).heap.size (w.setCell (Q R 1 Y) (J I ((p:Int)+1))) C:=by
 obtain⟨i,hi⟩:∃i,i=p % n:=⟨_,rfl⟩
 obtain⟨j,g⟩:∃j,j=(p*7+3) % n:=⟨_,rfl⟩
 obtain⟨d,c⟩:∃d,d=p / n:=⟨_,rfl⟩
 have hi2:i<n:=by rw[hi];exact RJ _ (by omega)
 have hj2:j<n:=by rw[g];exact RJ _ (by omega)
 have hd2:d<=p:=by rw[c];exact Nat.div_le_self _ _
 have e1:(p:Int).tmod n=i:=by rw[hi];rfl
 have e2:((p:Int)*7+3).tmod n=j:=by rw[g];rfl
 have e3:(p:Int) / n=d:=by rw[c];rfl
 rw[<-hi] at l;rw[<-g] at h;have o:(w.setCell (Q R 1 Y) (J I ((p:Int)+1))).cell? (Q b (off+i) Y)=T (J .u8 u):=(cell_far _ _ _ _ (by simp;omega)).trans l;have r:(w.setCell (Q R 1 Y) (J I ((p:Int)+1))).cell? (Q b (off+j) Y)=T (J .u8 v):=(cell_far _ _ _ _ (by simp;omega)).trans h;have D:(w.setCell (Q R 1 Y) (J I ((p:Int)+1))).cell? (Q R 0 Y)=T (Z (T (Q b off Y)) n cap):=(sq _ _ _ _ (by simp)).trans B;obtain⟨x,s,hx2⟩:∃x:Nat,(u:Int)*131+v*1117+p*29+d*53=x/\x<1000000000000:=⟨u*131+v*1117+p*29+d*53,by omega,by omega⟩
 obtain⟨y,f,hy2⟩:=vH x (x / 64) (by omega) (by omega);rw[show((x / 64:Nat):Int)=(x:Int) / 64 from rfl] at f;obtain⟨z,hz,ZR,q⟩:∃z:Int,(y:Int).tmod m=z/\0<=z/\z<m:=⟨_,rfl,Int.tmod_nonneg _ (by omega),Int.tmod_lt_of_pos _ (by omega)⟩
 have hm0:¬ m=0:=by omega
 have hq:(decide (m<1) || ((n:Int) == 0))=ZA:=by simp;omega
 have hn0:¬ (n:Int)=0:=by omega
 have hge:(n:Int)<=p:=by omega
 have E:=ae s;have G:=ae f;have F:=ae hz;clear hi g l h s f hz c;go_enter func20,ntmps20;go_wp2_with fail;go_quiet (fail);have t:=ae (AS (eL (w.setCell (Q R 1 Y) (J I ((p:Int)+1))).heap.size (w.setCell (Q R 1 Y) (J I ((p:Int)+1)))) nq);rw[E.out];clear o r D;generalize (w.setCell (Q R 1 Y) (J I ((p:Int)+1))).drewN nq=W at t ⊢;have f:=G.out;have hz:=F.out;go_wp2;go_ret;exact⟨z,rfl,ZR,q,t⟩
theorem au (R p:Nat)(m:Int)(w:M)(hR:Rd w R p)(x:(p:Int)<=100000)(B:1<=m)(t:m<=1000000):Calls Pg 20 #[.pointer (T (Q R 0 Y)),J I m] w λe j=>∃z:Int,e=ZF (J I z)/\0<=z/\z<m/\Rd j R (p+1)/\Only R w j:=by
 have hR':=hR;have g:=hR.step;have r:Only R w (w.setCell (Q R 1 Y) (J I ((p:Int)+1))):=ip (Only.refl R w) 1 _;obtain⟨a,n,cap,hl,hn,y,⟨h1,h2⟩,E⟩:=hR;by_cases hz:n=0;{subst hz;exact(CR R p m a cap w y h1 h2 x B).mono λe j ⟨o,i⟩=>⟨0,o,by omega,by omega,by rw[i];exact g,by rw[i];exact r⟩}
 ·rcases E with h|⟨b,off,rfl,hb,hbl,C⟩
  {exact absurd h hz};{by_cases f:p<n;{obtain⟨u,ZR,c⟩:=C p f;exact(FV R p m b off n cap u w y h1 h2 x B t f hb ZR c).mono λe j ⟨z,o,q,s,i⟩=>⟨z,o,q,s,by rw[i];exact g,by rw[i];exact r⟩};{obtain⟨u,ZR,c⟩:=C (p % n) (RJ _ (by omega));obtain⟨v,F,l⟩:=C ((p*7+3) % n) (RJ _ (by omega));exact(CS R p m b off n cap u v w y h1 h2 x B t f (by omega) hn hb ZR F c l).mono λe j ⟨z,o,q,s,D⟩=>⟨z,o,q,s,g.aa D ly,r.trans (Only.u D)⟩}}
def ByteSl (w:M)(a:Option Addr)(n:Nat):Prop:=n=0∨∃b off,a=T (Q b off Y)/\b<w.heap.size/\∀i,i<n->∃u:Nat,u<256/\A w (Q b (off+i) Y)=T (J .u8 u)
theorem ByteSl.aa{g:M}(h:ByteSl w a n)(hb:Below B w g)(l:w.heap.size<=B):ByteSl g a n:=by
 rcases h with h|⟨b,off,e,f,m⟩
 {exact .inl h};{refine .inr ⟨b,off,e,lj f hb.size,λi hi=>?_⟩;obtain⟨u,j,c⟩:=m i hi;exact⟨u,j,(hb.cell (p:=(Q b _ Y)) (lj f l)).trans c⟩}
theorem tE{k cap:Nat}(h:ByteSl w a n)(hk:k<=n)(g:k<=2000)(t:ZH):Rd (w.alloc (N #[Z a k cap,J I 0] t)) w.heap.size 0:=by
 refine⟨a,k,cap,by simp,g,by simp,⟨by simp,by simp⟩,?_⟩;rcases h with h|⟨b,off,e,f,l⟩
 {exact .inl (by omega)};{refine .inr ⟨b,off,e,f,by simp;omega,λi hi=>?_⟩;obtain⟨u,j,c⟩:=l i (by omega);exact⟨u,j,(((q9 w).alloc ly _).cell (p:=(Q b _ Y)) f).trans c⟩}
theorem ym (b off n cap:Nat)(w:M)(hn:(n:Int)<=1048576)(hc:n<=cap)(c:ByteSl w (T (Q b off Y)) n):Calls Pg 18 #[Z (T (Q b off Y)) n cap] w λe g=>∃R,e=ZF (.pointer (T (Q R 0 Y)))/\w.heap.size<=R/\Rd g R 0/\Below w.heap.size w g:=by
 have f:=ae c;clear c;by_cases h:(2000:Int)<n;all_goals
  go_enter func18,ntmps18;go_wp2;go_ret;first
   |exact⟨_,rfl,n8 _,tE f (k:=2000) (by omega) (by omega) _,br.alloc ly _⟩
   |exact⟨_,rfl,n8 _,tE f (k:=n) (by omega) (by omega) _,br.alloc ly _⟩
theorem yn (a:Option Addr)(cap:Nat)(w:M):Calls Pg 18 #[Z a 0 cap] w λe b=>∃R,e=ZF (.pointer (T (Q R 0 Y)))/\w.heap.size<=R/\Rd b R 0/\Below w.heap.size w b:=by have c:Hid (ByteSl w a 0):=.inl rfl;go_enter func18,ntmps18;go_wp2;go_ret;exact⟨_,rfl,n8 _,tE c (k:=0) (by omega) (by omega) _,br.alloc ly _⟩
theorem pu (a:Option Addr)(n cap:Nat)(w:M)(hn:(n:Int)<=1048576)(h:n<=cap)(c:ByteSl w a n):Calls Pg 18 #[Z a n cap] w λe g=>∃R,e=ZF (.pointer (T (Q R 0 Y)))/\w.heap.size<=R/\Rd g R 0/\Below w.heap.size w g:=by
 have f:=c;rcases c with rfl|⟨b,off,rfl,_,_⟩
 {exact yn a cap w};{exact ym b off n cap w hn h f}
theorem fj (s:ByteArray)(n:Nat)(w:M)(h:s.size*n<=4000)(hn:(n:Int)<=4000):Calls Pg 35 #[U s,J I n] w λe u=>∃t:ByteArray,e=ZF (U t)/\t.size<=s.size*n/\u=w:=by
 have H:=ae h;clear h;go_enter func35,ntmps35;go_wp2;go_loop [0,1,5] (λsv i r=>∃(x:ByteArray) (k:Nat) (o:ByteArray),sv=U x/\i=J I k/\r=U o/\(k:Int)<=4000/\Hid (o.size+x.size*k<=s.size*n)) (λ_ i _=>(intOf i).toNat);case atStart=>exact⟨s,n,⟨#[]⟩,rfl,rfl,rfl,hn,by show 0+s.size*n<=_;omega⟩
 case round =>
  obtain⟨x,k,o,rfl,rfl,rfl,hk,f⟩:=hrel;by_cases hz:(k:Int)=0
  ·obtain rfl:k=0:=by omega
   have q:o.size<=s.size*n:=by have:=f.out;omega
   have b:=ae q;clear q;go_wp2;go_ret;exact⟨o,rfl,b,rfl⟩
  ·have hpos:0<(k:Int):=by omega
   have l:x.size<=x.size*k:=Nat.le_mul_of_pos_right _ (by omega);have hx2:(x.size:Int)<=4000:=by have:=f.out;have:=H.out;omega
   have ho2:(o.size:Int)<=4000:=by have:=f.out;have:=H.out;omega
   have q5:(k:Int).tmod 2=(k:Int) % 2:=P7 (by omega);have g:(x++x).size=x.size+x.size:=by simp
   have p:(o++x).size=o.size+x.size:=by simp
   have c:(x.size+x.size)*(k / 2)+x.size*(k % 2)=x.size*k:=by rw[show x.size*k=x.size*(2*(k / 2)+k % 2) by rw[Nat.div_add_mod]];rw[Nat.mul_add,<-Nat.mul_assoc,Nat.mul_two]
   have m:=ae c;clear c l;by_cases hodd:(k:Int) % 2=1
   ·have b:Hid (k % 2=1):=by show k % 2=1;omega
    go_wp2;refine⟨⟨x++x,k / 2,o++x,rfl,by go_num,rfl,by omega,?_⟩,by simp[intOf];omega⟩;show(o++x).size+(x++x).size*(k / 2)<=s.size*n;have:=f.out;have j:=m.out;rw[b.out,Nat.mul_one] at j;rw[g,p];omega
   ·have b:Hid (k % 2=0):=by show k % 2=0;omega
    go_wp2;refine⟨⟨x++x,k / 2,o,rfl,by go_num,rfl,by omega,?_⟩,by simp[intOf];omega⟩;show o.size+(x++x).size*(k / 2)<=s.size*n;have:=f.out;have j:=m.out;rw[b.out,Nat.mul_zero] at j;rw[g];omega
def CI (w:M)(b:Nat)(x y z:ZC):Prop:=w.heap[b]?=T (N #[x,y,z] 90 (0,0))
theorem CI.lt (h:CI w b x y z):b<w.heap.size:=(gM.1 h).1
theorem CI.c0 (h:CI w b x y z):A w (Q b 0 Y)=T x:=by rw[IA h];rfl
theorem CI.c1 (h:CI w b x y z):A w (Q b 1 Y)=T y:=by rw[IA h];rfl
theorem CI.c2 (h:CI w b x y z):A w (Q b 2 Y)=T z:=by rw[IA h];rfl
theorem CI.fz (h:CI w b x y z)(j:Nat):w.frozen? (Q b j Y)=ZA:=MW h j
theorem CI.aa{c:M}(h:CI w b x y z)(hb:Below B w c)(f:b<B):CI c b x y z:=(hb.block b f).trans h
theorem CI.new (w:M)(x y z:ZC):CI (w.alloc (N #[x,y,z] 90)) w.heap.size x y z:=n6 w _
theorem CI.other (h:CI w b x y z)(p:Addr)(c:p.block≠b)(v:ZC):CI (w.setCell p v) b x y z:=by unfold CI at *;simp[World.setCell,CV,c,h]
theorem CI.set1 (h:CI w b x y z)(v:ZC):CI (w.setCell (Q b 1 Y) v) b x v z:=by unfold CI at *;simp[World.setCell,CV,h]
theorem CI.set2 (h:CI w b x y z)(v:ZC):CI (w.setCell (Q b 2 Y) v) b x y v:=by unfold CI at *;simp[World.setCell,CV,h]
theorem CI.set0 (h:CI w b x y z)(v:ZC):CI (w.setCell (Q b 0 Y) v) b v y z:=by unfold CI at *;simp[World.setCell,CV,h]
theorem CI.all (h:CI w b x y z)(f c g:ZC):CI (((w.setCell (Q b 0 Y) f).setCell (Q b 1 Y) c).setCell (Q b 2 Y) g) b f c g:=((h.set0 f).set1 c).set2 g
theorem xa:(Pg.info? 90).map (·.size)=T 3:=by kernel_rfl
theorem dX{p u:Tmp}(h:fn.results=#[.cell p 90,.tmp u])(tmps:Array ZC)(w:M)(g:Nat)(x y z:ZC)(c:tmps.getD p undef=.pointer (T (Q g 0 Y)))(b:CI w g x y z):(results fn tmps).run Pg w=.ok (.tuple #[.agg #[x,y,z],tmps.getD u undef]) w:=by rw[results_cell_tmp h,c];simp[asAddr,run_loadVar_row w g 90 90 #[x,y,z] (0,0) _ b underlying90 rfl xa,Result.andThen]
def i3V (i:I3):List ZC:=[J I i.1,U ⟨i.2.1.toArray⟩,J I i.2.2]
def i3L (L:List I3):List ZC:=L.flatMap i3V
theorem jw:∀L:List I3,(i3L L).length=L.length*3
 |[]=>rfl
 |i::L=>by have:=jw L;simp only[i3L,J2,cM,eT] at this ⊢;rw[this];simp[i3V];omega
theorem CY{f j:Nat}{v:ZC}{c:List ZC}(h:w.ownsRow b e f v n c)(hR:R<b)(u:ZC):(w.setCell (Q R j Y) u).ownsRow b e f v n c:=by
 refine⟨h.1,?_⟩;rcases h.2 with hn|⟨g,cap,i,o,l,m,r⟩
 {exact .inl hn}
 ·refine .inr ⟨g,cap,i,o,l,?_,r⟩;have:R≠g:=by omega
  simp[World.setCell,CV,this,m]
def PB (w:M)(b:Nat)(v:ZC):Prop:=w.heap[b]?=T (N #[v] 59 (0,0))
theorem PB.lt{v:ZC}(h:PB w b v):b<w.heap.size:=(gM.1 h).1
theorem PB.c0{v:ZC}(h:PB w b v):A w (Q b 0 Y)=T v:=by rw[IA h];rfl
theorem PB.fz{v:ZC}(h:PB w b v)(j:Nat):w.frozen? (Q b j Y)=ZA:=MW h j
theorem PB.aa{c:M}{v:ZC}(h:PB w b v)(hb:Below B w c)(f:b<B):PB c b v:=(hb.block b f).trans h
theorem PB.set{v:ZC}(h:PB w b v)(c:ZC):PB (w.setCell (Q b 0 Y) c) b c:=by unfold PB at *;simp[World.setCell,CV,h]
theorem vI:(Pg.info? 59).map (·.size)=T 1:=by kernel_rfl
theorem tF (c:UInt8):(10:UInt8) ∉ enc c:=by refine tA (p:=λc=>(10:UInt8) ∉ enc c) ?_ c;decide +kernel
theorem zZ{k:Int}(h:1<=k/\k<=15):(10:UInt8) ∉ word k:=by rcases iq h with rfl|rfl|rfl|rfl|rfl|rfl|rfl|rfl|rfl|rfl|rfl|rfl|rfl|rfl|rfl<;>decide
theorem lL:∀n:Nat,(10:UInt8) ∉ Lib.decDigits n:=by
 intro n;induction n using Nat.strongRecOn with
 |ind n c =>
  rw[Lib.decDigits];split;{rename_i h;intro h2;have h3:=nL.1 h2;have h4:=AP UInt8.toNat h3;rw[MJ] at h4;have b:(10:UInt8).toNat=10:=rfl;omega};{rename_i h;intro h2;rcases p8.1 h2 with h2|h2;{exact c (n / 10) (by omega) h2};{have h3:=nL.1 h2;have h4:=AP UInt8.toNat h3;rw[MJ] at h4;have b:(10:UInt8).toNat=10:=rfl;omega}}
theorem Aa{n:Int}(h:aG op s.length n=true):(10:UInt8) ∉ aR op s n:=by
 obtain⟨h1,_⟩:=ed h;have f:=zZ h1;unfold aR;intro b;split at b;{rw[dw] at b;rcases p8.1 b with b|b;{exact f b};{simp only[A9,p8,NW,nj,PS] at b;rcases b with b|(b|⟨c,_,b⟩)|b;{exact absurd b (by decide)};{exact absurd b (by decide)};{exact tF c b};{exact absurd b (by decide)}}};{split at b;{exact f b};{rcases p8.1 b with b|b;{exact f b};{rcases A9.1 b with b|b;{exact absurd b (by decide)};{exact lL _ b}}}}
theorem FW{n:Int}(h:aG op s.length n=true):aR op s n≠[]:=by
 obtain⟨h1,_⟩:=ed h;have b:word op≠[]:=by rcases iq h1 with rfl|rfl|rfl|rfl|rfl|rfl|rfl|rfl|rfl|rfl|rfl|rfl|rfl|rfl|rfl<;>decide
 unfold aR;split;{simp};{split;{exact b};{simp}}
def qw (b:List UInt8):List ZC:=b.map λc=>J .u8 (c.toNat:Int)
theorem Hu:(Pg.info? 5).map (λi=>(i.zero,i.size,i.bytes))=T (T (J .u8 0),1,1):=by kernel_rfl
theorem gj{size:Nat}{v:ZC}{f:List ZC}(h:w.ownsRow b e size v n f)(c:Only R w j)(hR:R<b):j.ownsRow b e size v n f:=by
 refine h.kept (row:=T R) ⟨c.os,c.tape,c.output,c.size,λk l i=>c.block k l (by simpa using i)⟩ ?_;rcases h.2 with ⟨rfl,_⟩|⟨g,cap,cur,rfl,hg,_⟩
 {exact .inl rfl};{right;simp[Value.ownBlock];omega}
theorem yo{z:Int}(b:0<=z)(h1:z<159):∃c:UInt8,97+z=(c.toNat:Int):=by obtain⟨k,rfl⟩:=BC b;refine⟨UInt8.ofNat (97+k),?_⟩;rw[MJ];omega
theorem Ab (b:List UInt8)(c:UInt8):qw (b++[c])=qw b++[J .u8 (c.toNat:Int)]:=by simp[qw]
theorem CZ (b:List UInt8)(w:M)(g cap k:Nat)(f:b.length=k)(h:∀j (c:j<b.length),w.cell? (((Q g 0 Y):Addr).add j)=T (J .u8 (b[j].toNat:Int))):(convert 22 9 (Z (T (Q g 0 Y)) k cap)).run Pg w=.ok (U ⟨b.toArray⟩) w:=by subst f;refine OU _ 22 9 5 (Q g 0 Y) cap b MF ND IN ?_;intro j c;exact h j c
theorem gT (R p:Nat)(w:M)(hR:Rd w R p)(hp:(p:Int)<=50000):Calls Pg 85 #[.pointer (T (Q R 0 Y))] w λe V=>∃t:ByteArray,e=ZF (U t)/\t.size<=8/\∃q:Nat,q<=p+8/\Rd V R q/\Only R w V:=by
 have HR:=ae hR;clear hR;go_enter func85,ntmps85;go_wp2_with fail;refine(au R p 12 _ HR (by omega) (by omega) (by omega)).mono ?_;rintro e n ⟨z,rfl,hz0,hz1,B,G⟩;have x:=ae B;have ZQ:=ae G;clear B G;by_cases h3:z=3
 ·subst h3;have ZO:=ae ((q9 n).alloc ly (N #[U ⟨#[97,32,98]⟩,U ⟨#[97,9,98,32,99]⟩] 9));have K:=ae (x.aa ZO ly);have ZI:(n.alloc (N #[U ⟨#[97,32,98]⟩,U ⟨#[97,9,98,32,99]⟩] 9)).cell? (Q n.heap.size 0 Y)=T (U ⟨#[97,32,98]⟩):=by simp
  have k1:(n.alloc (N #[U ⟨#[97,32,98]⟩,U ⟨#[97,9,98,32,99]⟩] 9)).cell? (Q n.heap.size 1 Y)=T (U ⟨#[97,9,98,32,99]⟩):=by simp
  go_wp2_with fail;refine(au R (p+1) 2 _ K (by omega) (by omega) (by omega)).mono ?_;rintro e b ⟨y,rfl,H,aq,l,f⟩;have hl:=x.lt;have j0:=(f.cell n.heap.size 0 (by simp) (by omega)).trans ZI;have j1:=(f.cell n.heap.size 1 (by simp) (by omega)).trans k1;have ZN:=ae l;have ZR:=ae ((ZQ.trans (Only.u ZO)).trans f);clear l f ZI k1 ZO;rcases(show y=0∨y=1 by omega) with rfl|rfl;all_goals
   go_wp2;go_ret;exact⟨_,rfl,by decide,p+1+1,by omega,ZN,ZR⟩
 by_cases h6:z<6
 ·rcases(show z=0∨z=1∨z=2∨z=4∨z=5 by omega) with rfl|rfl|rfl|rfl|rfl;all_goals
   go_wp2;go_ret;exact⟨_,rfl,by decide,p+1,by omega,x,ZQ⟩
 have n0:¬ z=0:=by omega
 have n1:¬ z=1:=by omega
 have n2:¬ z=2:=by omega
 have n4:¬ z=4:=by omega
 have n5:¬ z=5:=by omega
 go_wp2_with fail;refine(au R (p+1) 5 _ x (by omega) (by omega) (by omega)).mono ?_;rintro e b ⟨y,rfl,H,aq,l,f⟩;have K:=ae l;have O2:=ae (ZQ.trans f);have F:=l.lt;clear l f;have A2:=ae ((q9 b).alloc ly (N #[] 5));have W2:=ae (NQ b #[] 0 (e:=5) (size:=1) (n8 b.heap.size) (by unfold maxLen;omega) rfl);obtain⟨m,rfl⟩:=BC H;obtain⟨X,hi,W,fd,bt⟩:=LY Hu;go_wp2;go_loopw [4,5] (λv i wr=>∃(k:Nat) (h:List UInt8),k<=m+1/\i=J I k/\Hid (h.length=k)/\Hid (wr.ownsRow b.heap.size 5 1 v k (qw h))/\Hid (Rd wr R (p+2+k))/\Hid (Only R b wr)) (λ_ i _=>m+1 - (intOf i).toNat);case atStart=>exact⟨0,[],by omega,rfl,rfl,W2,K.aa A2 ly,Only.u A2⟩
 case round =>
  obtain⟨k,h,hk,rfl,S,ZM,RR,O⟩:=hrel;have hsz:b.heap.size<=wr.heap.size:=O.size;by_cases hlt:(k:Int)<=m;{go_wp2_with fail;refine(au R (p+2+k) 4 _ RR (by omega) (by omega) (by omega)).mono ?_;rintro e L ⟨c,rfl,ZK,hc1,E,u⟩;obtain⟨C,hC⟩:=yo ZK (by omega);have ZN:=ae E;have ZR:=ae (O.trans u);have D:=ae (gj ZM u F);have ZP:b.heap.size<=L.heap.size:=ZR.size;clear E u;go_wp2_with (at_builtin;refine BS _ rfl (.tmp 33) (.tmp 38) 22 rfl b.heap.size 5 X (J .u8 0) 1 1 MF hi W fd bt rfl (by decide) _ k (qw h) (by simp[Act.eval]) (D.alloc _) (Q L.heap.size 0 Y) 1 1 [J .u8 (C.toNat:Int)] (by simp[Act.eval]) rfl (ci _ _ _) (by simp[Value.oneCell']) (by unfold maxLen;omega) (by omega) (by simp;omega) ?_;intro v' w4 r o P;have O4:=ae r;have B4:=ae (bg ((eL b.heap.size L).alloc ZP (N #[J .u8 (C.toNat:Int)] 5)) o (by simp;omega) (λj e=>(D.lt j e).1));clear r o P);refine⟨⟨k+1,h++[C],by omega,by go_num,by show(h++[C]).length=k+1;simp[S.out],?_,?_,ZR.then B4.out⟩,by simp[intOf];omega⟩;{show World.ownsRow _ _ _ _ _ _ _;rw[Ab];exact O4};{exact ZN.low B4 F}}
  ·have O5:=ae (O2.trans O);obtain⟨g,cap,rfl⟩:=dl ZM (by omega);have dg:=CZ h wr g cap k S.out (λj hj=>ZM.cells (g:=g) rfl j _ (by simp[qw,hj]));have s:(⟨h.toArray⟩:ByteArray).size<=8:=by show h.toArray.size<=8;have:=S.out;simp;omega
   have ZJ:=ae s;generalize (⟨h.toArray⟩:ByteArray)=ZL at dg ZJ;clear s;go_wp2;go_ret;exact⟨ZL,rfl,ZJ,p+2+k,by omega,RR,O5⟩
theorem Ac (W:M)(y:Nat)(hy:y<10):∃ZL:ByteArray,ZL.size<=3/\(W.alloc (N #[U ⟨#[32]⟩,U ⟨#[10]⟩,U ⟨#[34]⟩,U ⟨#[92]⟩,U ⟨#[48]⟩,U ⟨#[120]⟩,U ⟨#[92,52]⟩,U ⟨#[101,110,100]⟩,U ⟨#[92,122,122]⟩,U ⟨#[92,70,70]⟩] 9)).cell? (Q W.heap.size y Y)=T (U ZL):=by rcases(show y=0∨y=1∨y=2∨y=3∨y=4∨y=5∨y=6∨y=7∨y=8∨y=9 by omega) with rfl|rfl|rfl|rfl|rfl|rfl|rfl|rfl|rfl|rfl;all_goals refine⟨_,?_,by simp;rfl⟩;decide
theorem tG (C:UInt8):(⟨#[C]⟩:ByteArray).size=1:=rfl
theorem Ad (C:UInt8):IntKind.u8.wrap (C.toNat:Int)=C.toNat:=by have:=C.toNat_lt;rw[QS];omega
theorem byte_of{c:Int}(b:0<=c)(h1:c<256):∃C:UInt8,c=(C.toNat:Int):=by obtain⟨k,rfl⟩:=BC b;refine⟨UInt8.ofNat k,?_⟩;rw[MJ];omega
theorem yp (R p:Nat)(s:ByteArray)(w:M)(hR:Rd w R p)(hp:(p:Int)<=50000)(hs:(s.size:Int)<=400000):Calls Pg 33 #[.pointer (T (Q R 0 Y)),U s] w λe G=>∃t:ByteArray,e=ZF (U t)/\(t.size:Int)<=2*s.size+20/\∃q:Nat,q<=p+8/\Rd G R q/\Only R w G:=by
 have ZN:=ae hR;clear hR;go_enter func33,ntmps33;go_wp2_with fail;refine(au R p ((s.size:Int)+1) _ ZN.out (by omega) (by omega) (by omega)).mono ?_;rintro e w1 ⟨i,rfl,E,hi1,x,u⟩;have O:=ae x;have ZQ:=ae u;clear x u;obtain⟨i,rfl⟩:=BC E;have hA:(s.extract 0 i).size=i:=by simp;omega
 have hB:(s.extract i s.size).size=s.size - i:=by simp
 go_wp2_with fail;refine(au R (p+1) 5 _ O.out (by omega) (by omega) (by omega)).mono ?_;rintro e b ⟨z,rfl,hz0,hz1,o,r⟩;have l:=ae o;have g:=ae (ZQ.out.trans r);clear o r;have hl:=l.out.lt;rcases(show z=0∨z=1∨z=2∨z=3∨z=4 by omega) with rfl|rfl|rfl|rfl|rfl;{go_wp2;go_ret;exact⟨_,rfl,by omega,p+1+1,by omega,l.out,g.out⟩}
 ·go_wp2_with fail;go_region_with (go_at_call 20;refine(au R (p+1+1) 10 _ ?_ (by omega) (by omega) (by omega)).mono ?_;exact l.out.aa (B:=b.heap.size) (by repeat (first|exact eL _ _|(refine QK ?_)|(refine RK ?_ (by simp) _))) ly;rintro e h ⟨y,rfl,H,hy1,j,f⟩;obtain⟨y,rfl⟩:=BC H;have n:=ae j;have m:Hid (Only R b h):=(Only.u (w:=b) (by repeat (first|exact eL _ _|(refine QK ?_)|(refine RK ?_ (by simp) _)))).trans f;(first|(obtain⟨ZL,L,D⟩:=Ac b.drew y (by omega);replace D:=(f.cell b.heap.size y (by simp) (by omega)).trans D)|obtain⟨ZL,L,D⟩:=Ac h y (by omega));clear j f);all_goals
   go_wp2;go_ret;first
    |exact⟨_,rfl,by simp;omega,p+1+1+1,by omega,n.out,g.out.trans m.out⟩
    |exact⟨_,rfl,by simp;omega,p+1+1+1,by omega,n.out.aa (B:=h.heap.size) (by repeat (first|exact eL _ _|(refine QK ?_)|(refine RK ?_ (by simp) _))) ly,(g.out.trans m.out).trans (Only.u (w:=h) (by repeat (first|exact eL _ _|(refine QK ?_)|(refine RK ?_ (by simp) _))))⟩
 ·by_cases F:(i:Int)<s.size
  ·have K:(s.extract (i+1) s.size).size=s.size - (i+1):=by simp
   go_wp2_with fail;go_quiet (fail);have ZR:=ae (AS (q9 b) nq);generalize b.drewN nq=W at ZR ⊢;go_wp2;go_ret;exact⟨_,rfl,by simp;omega,p+1+1,by omega,l.out.aa ZR.out ly,g.out.trans (Only.u ZR.out)⟩
  {go_wp2;go_ret;exact⟨_,rfl,by simp;omega,p+1+1,by omega,l.out,g.out⟩}
 ·by_cases F:(i:Int)<s.size
  ·have K:(s.extract (i+1) s.size).size=s.size - (i+1):=by simp
   have hltN:i<s.size:=by omega
   have hw1:IntKind.i64.wrap ((i:Int)+1)=(i:Int)+1:=by rw[wA];omega
   go_wp2_with fail;go_region_with (go_at_call 20;refine(au R (p+1+1) 256 _ ?_ (by omega) (by omega) (by omega)).mono ?_;exact l.out.aa (B:=b.heap.size) (by repeat (first|exact eL _ _|(refine QK ?_)|(refine RK ?_ (by simp) _))) ly;rintro e h ⟨c,rfl,ZP,ZO,j,f⟩;obtain⟨C,rfl⟩:=byte_of ZP ZO;have hcv:=oA (C.toNat:Int) C rfl;have hwr:=Ad C;have n:=ae j;have m:Hid (Only R b h):=(Only.u (w:=b) (by repeat (first|exact eL _ _|(refine QK ?_)|(refine RK ?_ (by simp) _)))).trans f;clear j f);all_goals
    go_wp2;go_ret;first
     |exact⟨_,rfl,by simp[tG];omega,p+1+1+1,by omega,n.out,g.out.trans m.out⟩
     |exact⟨_,rfl,by simp[tG];omega,p+1+1+1,by omega,n.out.aa (B:=h.heap.size) (by repeat (first|exact eL _ _|(refine QK ?_)|(refine RK ?_ (by simp) _))) ly,(g.out.trans m.out).trans (Only.u (w:=h) (by repeat (first|exact eL _ _|(refine QK ?_)|(refine RK ?_ (by simp) _))))⟩
  {go_wp2;go_ret;exact⟨_,rfl,by simp;omega,p+1+1,by omega,l.out,g.out⟩}
 {go_wp2;go_ret;exact⟨_,rfl,by simp;omega,p+1+1,by omega,l.out,g.out⟩}
theorem oI{p:Tmp}(h:fn.results=#[.cell p 90])(tmps:Array ZC)(w:M)(g:Nat)(x y z:ZC)(c:tmps.getD p undef=.pointer (T (Q g 0 Y)))(b:CI w g x y z):(results fn tmps).run Pg w=.ok (.agg #[x,y,z]) w :=
 results_cell_row h tmps w g 90 #[x,y,z] (0,0) _ c b underlying90 rfl xa
theorem bj (s:ByteArray)(w:M):Calls Pg 70 #[U s] w λe b=>e=ZF (.agg #[J I 1,U s,J I 0])/\Below w.heap.size w b:=by
 go_enter func70,ntmps70;go_wp2;try simp only[Exit.inBlock,Exit.then]
 refine bp (oI rfl _ _ w.heap.size _ _ _ rfl (CI.new w _ _ _)) rfl ?_;exact⟨rfl,br.alloc ly _⟩
theorem aV (op:Int)(w:M):Calls Pg 43 #[J I op] w λe b=>e=ZF (.agg #[J I op,U ⟨#[]⟩,J I 0])/\Below w.heap.size w b:=by
 go_enter func43,ntmps43;go_wp2;try simp only[Exit.inBlock,Exit.then]
 refine bp (oI rfl _ _ w.heap.size _ _ _ rfl (CI.new w _ _ _)) rfl ?_;exact⟨rfl,br.alloc ly _⟩
theorem bv (op n:Int)(w:M):Calls Pg 112 #[J I op,J I n] w λe b=>e=ZF (.agg #[J I op,U ⟨#[]⟩,J I n])/\Below w.heap.size w b:=by
 go_enter func112,ntmps112;go_wp2;try simp only[Exit.inBlock,Exit.then]
 refine bp (oI rfl _ _ w.heap.size _ _ _ rfl (CI.new w _ _ _)) rfl ?_;exact⟨rfl,br.alloc ly _⟩
theorem nS (n:Int)(w:M):Calls Pg 145 #[J I n] w λe b=>e=ZF (J I (if 200<n then 200 else n))/\b=w:=by
 by_cases h:200<n;{rw[p7 h];go_enter func145,ntmps145;go_wp2;go_ret;exact⟨rfl,rfl⟩};{rw[nD h];go_enter func145,ntmps145;go_wp2;go_ret;exact⟨rfl,rfl⟩}
theorem ef (R p:Nat)(w:M)(hR:Rd w R p)(hp:(p:Int)<=90000):Calls Pg 81 #[.pointer (T (Q R 0 Y))] w λe i=>∃t:ByteArray,e=ZF (U t)/\t.size<=30/\Rd i R (p+1)/\Only R w i:=by
 have n:=ae hR;clear hR;go_enter func81,ntmps81;go_wp2_with fail;refine(au R p 16 _ n (by omega) (by omega) (by omega)).mono ?_;rintro e w1 ⟨z,rfl,hz0,hz1,f,c⟩;have h:=ae f;have g:=ae c;clear f c;by_cases h6:z<6
 ·rcases(show z=0∨z=1∨z=2∨z=3∨z=4∨z=5 by omega) with rfl|rfl|rfl|rfl|rfl|rfl;all_goals
   go_wp2;go_ret;exact⟨_,rfl,by decide,h,g⟩
 ·by_cases h14:z<14
  ·obtain⟨m,rfl⟩:∃m:Nat,z=(m:Int)+6:=⟨(z - 6).toNat,by omega⟩
   have hm:m<=7:=by omega
   have DC:=ae (λV=>gy m (by omega) V);have hd:=ny m (by omega);go_wp2_with fail;refine(DC _).mono ?_;rintro e w2 ⟨rfl,b⟩;have l:=ae (h.aa b ly);have j:=ae (g.trans (Only.u b));clear b;go_wp2;go_ret;exact⟨_,rfl,by rw[MQ];show 1+(Lib.decDigits m).length<=30;omega,l,j⟩
  {go_wp2;go_ret;exact⟨_,rfl,by decide,h,g⟩}
theorem oJ:∃i,Pg.info? 90=T i/\i.zero=T (.agg #[J I 0,U ⟨#[]⟩,J I 0])/\i.size=3/\i.bytes=32:=by obtain⟨i,hi,hz⟩:=MN.1 kU;simp only[MG] at hz;exact⟨i,hi,hz⟩
def IR (w:M)(b g c:Nat)(L:List I3):Prop:=w.ownsRow b 90 3 (Z (T (Q g 0 Y)) L.length c) L.length (i3L L)
theorem IR.aa (h:IR w b g c L)(hb:Below B w f)(i:w.heap.size<=B):IR f b g c L:=own_below h hb i
theorem IR.lt (h:IR w b g c L):b<=g/\g<w.heap.size:=P6 h g rfl
theorem IR.F (h:IR w b g c L)(i:Only R w f)(hR:R<b):IR f b g c L:=gj h i hR
theorem IR.lit (w:M):IR (w.alloc (N #[] 90)) w.heap.size w.heap.size 0 [] :=
 ⟨by simp[i3L],.inr ⟨w.heap.size,0,#[],rfl,n8 _,n6 w _,n8 _,by unfold maxLen;omega,by simp,by simp[i3L]⟩⟩
theorem qx (L ZQ:List I3):i3L (L++ZQ)=i3L L++i3L ZQ:=by simp[i3L]
theorem xc (L:List I3):∀u∈i3L L,u.oneCell'=true:=by intro u c;simp only[i3L,NW,i3V] at c;obtain⟨x,_,b⟩:=c;simp at b;rcases b with rfl|rfl|rfl<;>simp[Value.oneCell']
theorem iU (b off j:Nat):((Q b off Y):Addr).add j=(Q b (off+j) Y):=by unfold Addr.add;split<;>simp_all
theorem dx (w:M)(b:Array ZC)(t:ZH):∀j u,b.toList[j]?=T u->(w.alloc (N b t)).cell? (((Q w.heap.size 0 Y):Addr).add j)=T u:=by intro j u c;rw[iU,F6];exact jb w b t w.heap.size j u rfl (by simpa using c)
theorem IR.news (h:IR w b g c L):∀j u,(i3L L)[j]?=T u->w.cell? (((Q g 0 Y):Addr).add j)=T u:=λj u f=>SH h (g:=g) rfl j u f
theorem gF{q:Array Oper}{rest:List Oper}{o:Oper}{a:Act}{ZM:Exit->Act->M->Prop}(ZR:o.guard=Y)(s x:Operand)
  (ZO:o.op=.call { callee:=.builtin .append,args:=#[s,x],argTypes:=#[57,57] }) (b g c:Nat) (L:List I3) (ZP:a.eval s=Z (T (Q g 0 Y)) L.length c) (r:IR w b g c L)
  (t:Addr) (m d:Nat) (ZQ:List I3) (G:a.eval x=Z (T t) m d) (K:m=ZQ.length) (D:ZQ≠[]) (p:∀j u,(i3L ZQ)[j]?=T u->w.cell? (t.add j)=T u) (hlen:L.length+ZQ.length<=100000) (hb:b<=w.heap.size)
  (h:∀f i l,IR l b f i (L++ZQ)->w.grownBy l (T g)->wpList Pg q ZM rest (a.put o.dst (Z (T (Q f 0 Y)) (L++ZQ).length i)) l):wpList Pg q ZM (o::rest) a w:=by
 obtain⟨F,hi,C,z,B⟩:=oJ;subst K;refine BS _ ZR s x 57 ZO b 90 F (.agg #[J I 0,U ⟨#[]⟩,J I 0]) 3 32 PU hi C z B rfl (by decide) _ L.length (i3L L) ZP r t ZQ.length d (i3L ZQ) G (jw ZQ) p (xc ZQ) (by unfold maxLen;omega) (by omega) hb ?_;intro H l n E _;have hp:0<ZQ.length:=IB.2 D;have y:∃f i,H=Z (T (Q f 0 Y)) (L.length+ZQ.length) i:=by
  rcases n.2 with ⟨_,h0⟩|⟨f,cap,cur,y,_⟩
  {omega};{exact⟨f,cap,y⟩}
 obtain⟨f,i,rfl⟩:=y;have e:(L++ZQ).length=L.length+ZQ.length:=cM;rw[<-e] at n ⊢;rw[<-qx] at n;exact h f i l n E
def DI (w:M)(R q n:Nat)(e:Ending)(b:M):Prop:=∃(L:List I3) (g c:Nat),e=ZF (Z (T (Q g 0 Y)) L.length c)/\IR b w.heap.size g c L/\L≠[]/\L.length<=n/\(∀i∈L,i.2.1.length<=5000)/\∃f:Nat,f<=q/\Rd b R f/\Only R w b
theorem tH:∀(L:List I3) (i:Nat) (n:Int) (x:I3),L[i]?=T x->i3L (L.set i (x.1,x.2.1,n))=(i3L L).set (i*3+2) (J I n)
 |[],i,n,x,h=>by simp at h
 |y::L,0,n,x,h=>by simp at h;subst h;rfl
 |y::L,i+1,n,x,h=>by simp at h;have c:=tH L i n x h;have b:(i3V y).length=3:=rfl;rw[TC];show i3V y++i3L (L.set i (x.1,x.2.1,n))=(i3V y++i3L L).set ((i+1)*3+2) (J I n);rw[c,P9 _ _ (by rw[b];omega),b,show(i+1)*3+2 - 3=i*3+2 by omega]
theorem IR.setN (h:IR w b g c L)(hi:i<L.length)(n:Int):∃j,j.length=L.length/\((∀x∈L,x.2.1.length<=5000)->∀x∈j,x.2.1.length<=5000)/\IR (w.setCell (Q g (i*3+2) Y) (J I n)) b g c j:=by
 have p:L[i]?=T L[i]:=gq hi;refine⟨L.set i (L[i].1,L[i].2.1,n),LN,λm x q=>?_,?_⟩;{rcases NG q with h1|h1;{exact m x h1};{rw[h1];exact m L[i] (gz hi)}}
 ·unfold IR;rw[LN,tH L i n L[i] p];refine⟨by rw[LN];exact h.1,?_⟩;rcases h.2 with ⟨f,h0⟩|⟨g',cap,l,f,hb,o,h1,h2,h3,h4⟩
  {simp at f};{simp only[ML,MU,Q0] at f;obtain⟨⟨rfl,-⟩,-,rfl⟩:=f;refine .inr ⟨g,c,l.setIfInBounds (i*3+2) (J I n),rfl,hb,?_,h1,h2,by simpa using h3,?_⟩;{simp[World.setCell,CV,o]};{rw[PD,UA,h4]}}
theorem IR.cellN{f:Nat}(h:IR w f g c L)(hi:i<L.length):(∃v,A w (Q g (i*3+2) Y)=T (J I v))/\w.frozen? (Q g (i*3+2) Y)=ZA:=by
 have o:L[i]?=T L[i]:=gq hi;have m:∀(L:List I3) (i:Nat) (x:I3),L[i]?=T x->(i3L L)[i*3+2]?=T (J I x.2.2):=by
  intro L;induction L with
  |nil=>intro i x h;simp at h
  |cons y L p =>
   intro i x h;cases i with
   |zero=>simp at h;subst h;rfl
   |succ i =>simp at h;have j:(i3V y).length=3:=rfl;show(i3V y++i3L L)[(i+1)*3+2]?=_;rw[I5 (by rw[j];omega),j,show(i+1)*3+2 - 3=i*3+2 by omega];exact p i x h
 have l:=SH h (g:=g) rfl _ _ (m L i L[i] o);rw[iU,F6] at l;refine⟨⟨_,l⟩,?_⟩;rcases h.2 with ⟨b,_⟩|⟨g',cap,cur,b,_,n,_⟩
 {simp at b};{simp only[ML,MU,Q0] at b;obtain⟨⟨rfl,-⟩,-,rfl⟩:=b;exact MW n _}
