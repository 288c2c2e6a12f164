import Derived.Test.YtpmnbjkjpnclaaaGreatDoorMW
import Derived.Lib.Builder
import Derived.Laws.ResultCell
import Derived.Laws.Rows
import Derived.Lib.IndexMore
import Derived.Lib.AtoiAll
import Derived.Test.YtpmnbjkjpnclaaaGreatDoorMP
set_option maxRecDepth 100000
set_option maxHeartbeats 4000000
set_option linter.unusedSimpArgs false
open Go renaming Addr.mk->N,Value.slice->Y,Value.string->U,Value.int->Q,Value.agg->ZG,Obj.cells->J,IntKind.i64->I,World->M,Value->ZB,TypeId->ZH,Ending.returned->ZD,World.heap->B,Proofs.Tryz.prog->Pg
open Option renaming none->Z,some->T
open Array renaming size->A
namespace Go.Proofs.YtpmnbjkjpnclaaaGreatDoor.Vp
open Tryz RowKit
variable {w f:M}{b g R i n ZS:Nat}{e:ZH}{l:List ZB}
def o8 (b:List UInt8):List ZB:=b.map λc=>Q .u8 (c.toNat:Int)
theorem Ex:(Pg.info? 5).map (λi=>(i.zero,i.size,i.bytes))=T (T (Q .u8 0),1,1):=by kernel_rfl
theorem fs{j:M}{size:Nat}{v:ZB}(h:w.ownsRow b e size v n l)(f:Only R w j)(hR:R<b):j.ownsRow b e size v n l:=by
 refine h.kept (row:=T R) ⟨f.os,f.tape,f.output,f.size,λk m i=>f.block k m (by simpa using i)⟩ ?_;rcases h.2 with ⟨rfl,_⟩|⟨g,cap,cur,rfl,hg,_⟩
 {exact .inl rfl};{right;simp[Value.ownBlock];omega}
theorem wu{z:Int}(b:0<=z)(h1:z<159):∃c:UInt8,97+z=(c.toNat:Int):=by obtain⟨k,rfl⟩:=AT b;refine⟨UInt8.ofNat (97+k),?_⟩;rw[UInt8.toNat_ofNat'];omega
theorem xV (b:List UInt8)(c:UInt8):o8 (b++[c])=o8 b++[Q .u8 (c.toNat:Int)]:=by simp[o8]
theorem zL (b:List UInt8)(w:M)(g cap k:Nat)(h:b.length=k)(i:∀j (f:j<b.length),w.cell? (((N g 0 Z):Addr).add j)=T (Q .u8 (b[j].toNat:Int))):(convert 22 9 (Y (T (N g 0 Z)) k cap)).run Pg w=.ok (U ⟨b.toArray⟩) w:=by subst h;refine QE _ 22 9 5 (N g 0 Z) cap b L9 LB IN ?_;intro j f;exact i j f
theorem fO (R p:Nat)(w:M)(hR:Rd w R p)(hp:(p:Int)<=50000):Calls Pg 90 #[.pointer (T (N R 0 Z))] w λe V=>∃t:ByteArray,e=ZD (U t)/\t.size<=8/\∃q:Nat,q<=p+8/\Rd V R q/\Only R w V:=by
 have HR:=ae hR;clear hR;go_enter func90,ntmps90;go_wp2_with fail;refine(aw R p 12 _ HR (by omega) (by omega) (by omega)).mono ?_;rintro e n ⟨z,rfl,hz0,hz1,E,ZP⟩;have ZR:=ae E;have P:=ae ZP;clear E ZP;by_cases h3:z=3
 ·subst h3;have ZM:=ae ((BS n).alloc ly (J #[U ⟨#[97,32,98]⟩,U ⟨#[97,9,98,32,99]⟩] 9));have ZN:=ae (ZR.aa ZM ly);have k0:(n.alloc (J #[U ⟨#[97,32,98]⟩,U ⟨#[97,9,98,32,99]⟩] 9)).cell? (N (A (B n)) 0 Z)=T (U ⟨#[97,32,98]⟩):=by simp
  have k1:(n.alloc (J #[U ⟨#[97,32,98]⟩,U ⟨#[97,9,98,32,99]⟩] 9)).cell? (N (A (B n)) 1 Z)=T (U ⟨#[97,9,98,32,99]⟩):=by simp
  go_wp2_with fail;refine(aw R (p+1) 2 _ ZN (by omega) (by omega) (by omega)).mono ?_;rintro e f ⟨y,rfl,H,bt,l,b⟩;have hl:=ZR.lt;have j0:=(b.cell (A (B n)) 0 (by simp) (by omega)).trans k0;have j1:=(b.cell (A (B n)) 1 (by simp) (by omega)).trans k1;have ZO:=ae l;have x:=ae ((P.trans (Only.q ZM)).trans b);clear l b k0 k1 ZM;rcases(show y=0∨y=1 by omega) with rfl|rfl;all_goals
   go_wp2;go_ret;exact⟨_,rfl,by decide,p+1+1,by omega,ZO,x⟩
 by_cases h6:z<6
 ·rcases(show z=0∨z=1∨z=2∨z=4∨z=5 by omega) with rfl|rfl|rfl|rfl|rfl;all_goals
   go_wp2;go_ret;exact⟨_,rfl,by decide,p+1,by omega,ZR,P⟩
 have n0:¬ z=0:=by omega
 have n1:¬ z=1:=by omega
 have n2:¬ z=2:=by omega
 have n4:¬ z=4:=by omega
 have n5:¬ z=5:=by omega
 go_wp2_with fail;refine(aw R (p+1) 5 _ ZR (by omega) (by omega) (by omega)).mono ?_;rintro e f ⟨y,rfl,H,bt,l,b⟩;have ZN:=ae l;have O2:=ae (P.trans b);have ZS:=l.lt;clear l b;have A2:=ae ((BS f).alloc ly (J #[] 5));have W2:=ae (KJ f #[] 0 (e:=5) (size:=1) (nX (A (B f))) (by unfold maxLen;omega) rfl);obtain⟨m,rfl⟩:=AT H;obtain⟨aq,hi,ld,ex,fd⟩:=JT Ex;go_wp2;go_loopw [4,5] (λv i wr=>∃(k:Nat) (h:List UInt8),k<=m+1/\i=Q I k/\Hid (h.length=k)/\Hid (wr.ownsRow (A (B f)) 5 1 v k (o8 h))/\Hid (Rd wr R (p+2+k))/\Hid (Only R f wr)) (λ_ i _=>m+1 - (intOf i).toNat);case atStart=>exact⟨0,[],by omega,rfl,rfl,W2,ZN.aa A2 ly,Only.q A2⟩
 case round =>
  obtain⟨k,h,hk,rfl,K,ZK,ZI,L⟩:=hrel;have hsz:A (B f)<=A (B wr):=L.size;by_cases hlt:(k:Int)<=m;{go_wp2_with fail;refine(aw R (p+2+k) 4 _ ZI (by omega) (by omega) (by omega)).mono ?_;rintro e S ⟨c,rfl,W,hc1,G,r⟩;obtain⟨C,hC⟩:=wu W (by omega);have ZO:=ae G;have x:=ae (L.trans r);have D:=ae (fs ZK r ZS);have O:A (B f)<=A (B S):=x.size;clear G r;go_wp2_with (at_builtin;refine IS _ rfl (.tmp 33) (.tmp 38) 22 rfl (A (B f)) 5 aq (Q .u8 0) 1 1 L9 hi ld ex fd rfl (by decide) _ k (o8 h) (by simp[Act.eval]) (D.alloc _) (N (A (B S)) 0 Z) 1 1 [Q .u8 (C.toNat:Int)] (by simp[Act.eval]) rfl (cT _ _ _) (by simp[Value.oneCell']) (by unfold maxLen;omega) (by omega) (by simp;omega) ?_;intro v' w4 u o ZQ;have O4:=ae u;have B4:=ae (bg ((cM (A (B f)) S).alloc O (J #[Q .u8 (C.toNat:Int)] 5)) o (by simp;omega) (λj e=>(D.lt j e).1));clear u o ZQ);refine⟨⟨k+1,h++[C],by omega,by go_num,by show(h++[C]).length=k+1;simp[K.out],?_,?_,x.then B4.out⟩,by simp[intOf];omega⟩;{show World.ownsRow _ _ _ _ _ _ _;rw[xV];exact O4};{exact ZO.low B4 ZS}}
  ·have O5:=ae (O2.trans L);obtain⟨g,cap,rfl⟩:=fY ZK (by omega);have X:=zL h wr g cap k K.out (λj hj=>ZK.cells (g:=g) rfl j _ (by simp[o8,hj]));have s:(⟨h.toArray⟩:ByteArray).size<=8:=by show h.toArray.size<=8;have:=K.out;simp;omega
   have ZJ:=ae s;generalize (⟨h.toArray⟩:ByteArray)=ZL at X ZJ;clear s;go_wp2;go_ret;exact⟨ZL,rfl,ZJ,p+2+k,by omega,ZI,O5⟩
def CI (w:M)(b:Nat)(x y z:ZB):Prop:=w.heap[b]?=T (J #[x,y,z] 151 (0,0))
theorem CI.new (w:M)(x y z:ZB):CI (w.alloc (J #[x,y,z] 151)) (A (B w)) x y z:=gM w _
theorem CL:(Pg.info? 151).map (·.size)=T 3:=by kernel_rfl
abbrev I3:=Int × List UInt8 × Int
def i3V (i:I3):List ZB:=[Q I i.1,U ⟨i.2.1.toArray⟩,Q I i.2.2]
def i3L (L:List I3):List ZB:=L.flatMap i3V
theorem iD:∀L:List I3,(i3L L).length=L.length*3
 |[]=>rfl
 |i::L=>by have:=iD L;simp only[i3L,JZ,eL,BG] at this ⊢;rw[this];simp[i3V];omega
theorem zN{j:Nat}{v:ZB}(h:w.ownsRow b e i v n l)(hR:R<b)(u:ZB):(w.setCell (N R j Z) u).ownsRow b e i v n l:=by
 refine⟨h.1,?_⟩;rcases h.2 with hn|⟨g,cap,f,m,o,p,r⟩
 {exact .inl hn}
 ·refine .inr ⟨g,cap,f,m,o,?_,r⟩;have:R≠g:=by omega
  simp[World.setCell,JV,this,p]
def PB (w:M)(b:Nat)(v:ZB):Prop:=w.heap[b]?=T (J #[v] 43 (0,0))
theorem PB.lt{v:ZB}(h:PB w b v):b<A (B w):=(E7.1 h).1
theorem PB.c0{v:ZB}(h:PB w b v):w.cell? (N b 0 Z)=T v:=by rw[Lib.cell_of_heap h];rfl
theorem PB.fz{v:ZB}(h:PB w b v)(j:Nat):w.frozen? (N b j Z)=false:=TC h j
theorem PB.aa{v:ZB}(h:PB w b v)(hb:Below ZS w f)(g:b<ZS):PB f b v:=(hb.block b g).trans h
theorem PB.set{v:ZB}(h:PB w b v)(f:ZB):PB (w.setCell (N b 0 Z) f) b f:=by unfold PB at *;simp[World.setCell,JV,h]
theorem tW:(Pg.info? 43).map (·.size)=T 1:=by kernel_rfl
theorem mO{fn:Func}{p:Tmp}(h:fn.results=#[.cell p 151])(tmps:Array ZB)(w:M)(g:Nat)(x y z:ZB)(f:tmps.getD p undef=.pointer (T (N g 0 Z)))(b:CI w g x y z):(results fn tmps).run Pg w=.ok (ZG #[x,y,z]) w :=
 results_cell_row h tmps w g 151 #[x,y,z] (0,0) _ f b underlying151 rfl CL
theorem bj (s:ByteArray)(w:M):Calls Pg 98 #[U s] w λe b=>e=ZD (ZG #[Q I 1,U s,Q I 0])/\Below (A (B w)) w b:=by
 go_enter func98,ntmps98;go_wp2;try simp only[Exit.inBlock,Exit.then]
 refine bp (mO rfl _ _ (A (B w)) _ _ _ rfl (CI.new w _ _ _)) rfl ?_;exact⟨rfl,br.alloc ly _⟩
theorem ba (op:Int)(w:M):Calls Pg 99 #[Q I op] w λe b=>e=ZD (ZG #[Q I op,U ⟨#[]⟩,Q I 0])/\Below (A (B w)) w b:=by
 go_enter func99,ntmps99;go_wp2;try simp only[Exit.inBlock,Exit.then]
 refine bp (mO rfl _ _ (A (B w)) _ _ _ rfl (CI.new w _ _ _)) rfl ?_;exact⟨rfl,br.alloc ly _⟩
theorem bB (op n:Int)(w:M):Calls Pg 147 #[Q I op,Q I n] w λe b=>e=ZD (ZG #[Q I op,U ⟨#[]⟩,Q I n])/\Below (A (B w)) w b:=by
 go_enter func147,ntmps147;go_wp2;try simp only[Exit.inBlock,Exit.then]
 refine bp (mO rfl _ _ (A (B w)) _ _ _ rfl (CI.new w _ _ _)) rfl ?_;exact⟨rfl,br.alloc ly _⟩
theorem mr (n:Int)(w:M):Calls Pg 227 #[Q I n] w λe b=>e=ZD (Q I (if 200<n then 200 else n))/\b=w:=by
 by_cases h:200<n;{rw[nL h];go_enter func227,ntmps227;go_wp2;go_ret;exact⟨rfl,rfl⟩};{rw[eT h];go_enter func227,ntmps227;go_wp2;go_ret;exact⟨rfl,rfl⟩}
theorem dA (R p:Nat)(w:M)(hR:Rd w R p)(hp:(p:Int)<=90000):Calls Pg 87 #[.pointer (T (N R 0 Z))] w λe j=>∃t:ByteArray,e=ZD (U t)/\t.size<=30/\Rd j R (p+1)/\Only R w j:=by
 have l:=ae hR;clear hR;go_enter func87,ntmps87;go_wp2_with fail;refine(aw R p 16 _ l (by omega) (by omega) (by omega)).mono ?_;rintro e w1 ⟨z,rfl,hz0,hz1,f,g⟩;have h:=ae f;have i:=ae g;clear f g;by_cases h6:z<6
 ·rcases(show z=0∨z=1∨z=2∨z=3∨z=4∨z=5 by omega) with rfl|rfl|rfl|rfl|rfl|rfl;all_goals
   go_wp2;go_ret;exact⟨_,rfl,by decide,h,i⟩
 ·by_cases h14:z<14
  ·obtain⟨m,rfl⟩:∃m:Nat,z=(m:Int)+6:=⟨(z - 6).toNat,by omega⟩
   have hm:m<=7:=by omega
   have DC:=ae (λV=>kQ m (by omega) V);have hd:=CK m (by omega);go_wp2_with fail;refine(DC _).mono ?_;rintro e w2 ⟨rfl,b⟩;have o:=ae (h.aa b ly);have n:=ae (i.trans (Only.q b));clear b;go_wp2;go_ret;exact⟨_,rfl,by rw[KO];show 1+(Lib.decDigits m).length<=30;omega,o,n⟩
  {go_wp2;go_ret;exact⟨_,rfl,by decide,h,i⟩}
theorem rK:∃i,Pg.info? 151=T i/\i.zero=T (ZG #[Q I 0,U ⟨#[]⟩,Q I 0])/\i.size=3/\i.bytes=32:=by obtain⟨i,hi,hz⟩:=MG.1 oQ;simp only[JL] at hz;exact⟨i,hi,hz⟩
def IR (w:M)(b g c:Nat)(L:List I3):Prop:=w.ownsRow b 151 3 (Y (T (N g 0 Z)) L.length c) L.length (i3L L)
theorem IR.aa{c:Nat}{L:List I3}(h:IR w b g c L)(hb:Below ZS w f)(i:A (B w)<=ZS):IR f b g c L:=own_below h hb i
theorem IR.lt{c:Nat}{L:List I3}(h:IR w b g c L):b<=g/\g<A (B w):=World.ownsRow.lt h g rfl
theorem IR.ac{c:Nat}{L:List I3}(h:IR w b g c L)(i:Only R w f)(hR:R<b):IR f b g c L:=fs h i hR
theorem IR.lit (w:M):IR (w.alloc (J #[] 151)) (A (B w)) (A (B w)) 0 [] :=
 ⟨by simp[i3L],.inr ⟨A (B w),0,#[],rfl,nX _,gM w _,nX _,by unfold maxLen;omega,by simp,by simp[i3L]⟩⟩
theorem uR (L ZQ:List I3):i3L (L++ZQ)=i3L L++i3L ZQ:=by simp[i3L]
theorem CN (L:List I3):∀u∈i3L L,u.oneCell'=true:=by intro u b;simp only[i3L,LN,i3V] at b;obtain⟨x,_,f⟩:=b;simp at f;rcases f with rfl|rfl|rfl<;>simp[Value.oneCell']
theorem fB (b off j:Nat):((N b off Z):Addr).add j=(N b (off+j) Z):=by unfold Addr.add;split<;>simp_all
theorem ed (w:M)(b:Array ZB)(t:ZH):∀j u,b.toList[j]?=T u->(w.alloc (J b t)).cell? (((N (A (B w)) 0 Z):Addr).add j)=T u:=by intro j u f;rw[fB,JC];exact jl w b t (A (B w)) j u rfl (by simpa using f)
theorem IR.news{c:Nat}{L:List I3}(h:IR w b g c L):∀j u,(i3L L)[j]?=T u->w.cell? (((N g 0 Z):Addr).add j)=T u:=λj u f=>World.ownsRow.cells h (g:=g) rfl j u f
theorem gi{q:Array Oper}{rest:List Oper}{o:Oper}{a:Act}{ZN:Exit->Act->M->Prop}(C:o.guard=Z)(s x:Operand)
  (K:o.op=.call { callee:=.builtin .append,args:=#[s,x],argTypes:=#[41,41] }) (b g c:Nat) (L:List I3) (ZO:a.eval s=Y (T (N g 0 Z)) L.length c) (r:IR w b g c L)
  (y:Addr) (m d:Nat) (ZQ:List I3) (ZM:a.eval x=Y (T y) m d) (ZP:m=ZQ.length) (D:ZQ≠[]) (p:∀j u,(i3L ZQ)[j]?=T u->w.cell? (y.add j)=T u) (hlen:L.length+ZQ.length<=100000) (hb:b<=A (B w))
  (h:∀f i l,IR l b f i (L++ZQ)->w.grownBy l (T g)->wpList Pg q ZN rest (a.put o.dst (Y (T (N f 0 Z)) (L++ZQ).length i)) l):wpList Pg q ZN (o::rest) a w:=by
 obtain⟨G,hi,ZR,ZS,z⟩:=rK;subst ZP;refine IS _ C s x 41 K b 151 G (ZG #[Q I 0,U ⟨#[]⟩,Q I 0]) 3 32 QF hi ZR ZS z rfl (by decide) _ L.length (i3L L) ZO r y ZQ.length d (i3L ZQ) ZM (iD ZQ) p (CN ZQ) (by unfold maxLen;omega) (by omega) hb ?_;intro E l n H _;have hp:0<ZQ.length:=JX.2 D;have t:∃f i,E=Y (T (N f 0 Z)) (L.length+ZQ.length) i:=by
  rcases n.2 with ⟨_,h0⟩|⟨f,cap,cur,t,_⟩
  {omega};{exact⟨f,cap,t⟩}
 obtain⟨f,i,rfl⟩:=t;have e:(L++ZQ).length=L.length+ZQ.length:=eL;rw[<-e] at n ⊢;rw[<-uR] at n;exact h f i l n H
def DI (w:M)(R q n:Nat)(e:Ending)(b:M):Prop:=∃(L:List I3) (g c:Nat),e=ZD (Y (T (N g 0 Z)) L.length c)/\IR b (A (B w)) g c L/\L≠[]/\L.length<=n/\(∀i∈L,i.2.1.length<=5000)/\∃f:Nat,f<=q/\Rd b R f/\Only R w b
theorem rL:∀(L:List I3) (i:Nat) (n:Int) (x:I3),L[i]?=T x->i3L (L.set i (x.1,x.2.1,n))=(i3L L).set (i*3+2) (Q I n)
 |[],i,n,x,h=>by simp at h
 |y::L,0,n,x,h=>by simp at h;subst h;rfl
 |y::L,i+1,n,x,h=>by simp at h;have f:=rL L i n x h;have b:(i3V y).length=3:=rfl;rw[PL];show i3V y++i3L (L.set i (x.1,x.2.1,n))=(i3V y++i3L L).set ((i+1)*3+2) (Q I n);rw[f,NS _ _ (by rw[b];omega),b,show(i+1)*3+2 - 3=i*3+2 by omega]
theorem IR.setN{c:Nat}{L:List I3}(h:IR w b g c L)(hi:i<L.length)(n:Int):∃j,j.length=L.length/\((∀x∈L,x.2.1.length<=5000)->∀x∈j,x.2.1.length<=5000)/\IR (w.setCell (N g (i*3+2) Z) (Q I n)) b g c j:=by
 have s:L[i]?=T L[i]:=gq hi;refine⟨L.set i (L[i].1,L[i].2.1,n),JN,λm x q=>?_,?_⟩;{rcases J5 q with h1|h1;{exact m x h1};{rw[h1];exact m L[i] (gz hi)}}
 ·unfold IR;rw[JN,rL L i n L[i] s];refine⟨by rw[JN];exact h.1,?_⟩;rcases h.2 with ⟨f,h0⟩|⟨g',cap,l,f,hb,r,h1,h2,p,o⟩
  {simp at f};{simp only[JG,JE,MK] at f;obtain⟨⟨rfl,-⟩,-,rfl⟩:=f;refine .inr ⟨g,c,l.setIfInBounds (i*3+2) (Q I n),rfl,hb,?_,h1,h2,by simpa using p,?_⟩;{simp[World.setCell,JV,r]};{rw[MP,T1,o]}}
theorem IR.cellN{f c:Nat}{L:List I3}(h:IR w f g c L)(hi:i<L.length):(∃v,w.cell? (N g (i*3+2) Z)=T (Q I v))/\w.frozen? (N g (i*3+2) Z)=false:=by
 have p:L[i]?=T L[i]:=gq hi;have l:∀(L:List I3) (i:Nat) (x:I3),L[i]?=T x->(i3L L)[i*3+2]?=T (Q I x.2.2):=by
  intro L;induction L with
  |nil=>intro i x h;simp at h
  |cons y L o =>
   intro i x h;cases i with
   |zero=>simp at h;subst h;rfl
   |succ i =>simp at h;have m:(i3V y).length=3:=rfl;show(i3V y++i3L L)[(i+1)*3+2]?=_;rw[JP (by rw[m];omega),m,show(i+1)*3+2 - 3=i*3+2 by omega];exact o i x h
 have j:=World.ownsRow.cells h (g:=g) rfl _ _ (l L i L[i] p);rw[fB,JC] at j;refine⟨⟨_,j⟩,?_⟩;rcases h.2 with ⟨b,_⟩|⟨g',cap,cur,b,_,n,_⟩
 {simp at b};{simp only[JG,JE,MK] at b;obtain⟨⟨rfl,-⟩,-,rfl⟩:=b;exact TC n _}
