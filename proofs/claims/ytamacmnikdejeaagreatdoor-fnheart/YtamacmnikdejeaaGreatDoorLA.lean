import Derived.Test.YtamacmnikdejeaaGreatDoorMV
import Derived.Lib.Builder
import Derived.Laws.ResultCell
import Derived.Laws.Rows
import Derived.Lib.IndexMore
import Derived.Lib.AtoiAll
import Derived.Test.YtamacmnikdejeaaGreatDoorMO
set_option maxRecDepth 100000
set_option maxHeartbeats 4000000
set_option linter.unusedSimpArgs false
open Go renaming Addr.mk->Q,Value.slice->Y,Value.string->U,Value.int->J,Value.agg->ZG,Obj.cells->N,IntKind.i64->I,World->E,Value->ZB,TypeId->ZH,Ending.returned->ZF,World.heap->B,Proofs.Tryz.prog->Pg
open Option renaming none->Z,some->T
open Array renaming size->A
namespace Go.Proofs.YtamacmnikdejeaaGreatDoor.Vp
open Tryz RowKit
variable {w f:E}{b g R n ZS i:Nat}{e:ZH}
def qx (b:List UInt8):List ZB:=b.map λc=>J .u8 (c.toNat:Int)
theorem Ga:(Pg.info? 5).map (λi=>(i.zero,i.size,i.bytes))=T (T (J .u8 0),1,1):=by kernel_rfl
theorem fS{l:E}{size:Nat}{v:ZB}{j:List ZB}(h:w.ownsRow b e size v n j)(f:Only R w l)(hR:R<b):l.ownsRow b e size v n j:=by
 refine h.kept (row:=T R) ⟨f.os,f.tape,f.output,f.size,λk m i=>f.block k m (by simpa using i)⟩ ?_;rcases h.2 with ⟨rfl,_⟩|⟨g,cap,cur,rfl,hg,_⟩
 {exact .inl rfl};{right;simp[Value.ownBlock];omega}
theorem xO{z:Int}(b:0<=z)(h1:z<159):∃c:UInt8,97+z=(c.toNat:Int):=by obtain⟨k,rfl⟩:=AD b;refine⟨UInt8.ofNat (97+k),?_⟩;rw[UInt8.toNat_ofNat'];omega
theorem zu (b:List UInt8)(c:UInt8):qx (b++[c])=qx b++[J .u8 (c.toNat:Int)]:=by simp[qx]
theorem Bo (b:List UInt8)(w:E)(g cap k:Nat)(h:b.length=k)(i:∀j (f:j<b.length),w.cell? (((Q g 0 Z):Addr).add j)=T (J .u8 (b[j].toNat:Int))):(convert 22 9 (Y (T (Q g 0 Z)) k cap)).run Pg w=.ok (U ⟨b.toArray⟩) w:=by subst h;refine SG _ 22 9 5 (Q g 0 Z) cap b NL MQ KT ?_;intro j f;exact i j f
theorem gG (R p:Nat)(w:E)(hR:Rd w R p)(hp:(p:Int)<=50000):Calls Pg 64 #[.pointer (T (Q R 0 Z))] w λe w'=>∃t:ByteArray,e=ZF (U t)/\t.size<=8/\∃q:Nat,q<=p+8/\Rd w' R q/\Only R w w':=by
 have HR:=ae hR;clear hR;go_enter func64,ntmps64;go_wp2_with fail;refine(ay R p 12 _ HR (by omega) (by omega) (by omega)).mono ?_;rintro e n ⟨z,rfl,hz0,hz1,ZP,G⟩;have x:=ae ZP;have S:=ae G;clear ZP G;by_cases h3:z=3
 ·subst h3;have L:=ae ((BS n).alloc ly (N #[U ⟨#[97,32,98]⟩,U ⟨#[97,9,98,32,99]⟩] 9));have O:=ae (x.aa L ly);have k0:(n.alloc (N #[U ⟨#[97,32,98]⟩,U ⟨#[97,9,98,32,99]⟩] 9)).cell? (Q (A (B n)) 0 Z)=T (U ⟨#[97,32,98]⟩):=by simp
  have k1:(n.alloc (N #[U ⟨#[97,32,98]⟩,U ⟨#[97,9,98,32,99]⟩] 9)).cell? (Q (A (B n)) 1 Z)=T (U ⟨#[97,9,98,32,99]⟩):=by simp
  go_wp2_with fail;refine(ay R (p+1) 2 _ O (by omega) (by omega) (by omega)).mono ?_;rintro e f ⟨y,rfl,D,X,l,b⟩;have hl:=x.lt;have j0:=(b.cell (A (B n)) 0 (by simp) (by omega)).trans k0;have j1:=(b.cell (A (B n)) 1 (by simp) (by omega)).trans k1;have M:=ae l;have ZR:=ae ((S.trans (Only.q L)).trans b);clear l b k0 k1 L;rcases(show y=0∨y=1 by omega) with rfl|rfl;all_goals
   go_wp2;go_ret;exact⟨_,rfl,by decide,p+1+1,by omega,M,ZR⟩
 by_cases h6:z<6
 ·rcases(show z=0∨z=1∨z=2∨z=4∨z=5 by omega) with rfl|rfl|rfl|rfl|rfl;all_goals
   go_wp2;go_ret;exact⟨_,rfl,by decide,p+1,by omega,x,S⟩
 have n0:¬ z=0:=by omega
 have n1:¬ z=1:=by omega
 have n2:¬ z=2:=by omega
 have n4:¬ z=4:=by omega
 have n5:¬ z=5:=by omega
 go_wp2_with fail;refine(ay R (p+1) 5 _ x (by omega) (by omega) (by omega)).mono ?_;rintro e f ⟨y,rfl,D,X,l,b⟩;have O:=ae l;have O2:=ae (S.trans b);have H:=l.lt;clear l b;have A2:=ae ((BS f).alloc ly (N #[] 5));have W2:=ae (LV f #[] 0 (e:=5) (size:=1) (nX (A (B f))) (by unfold maxLen;omega) rfl);obtain⟨m,rfl⟩:=AD D;obtain⟨W,hi,ZJ,ex,bt⟩:=KZ Ga;go_wp2;go_loopw [4,5] (λv i wr=>∃(k:Nat) (h:List UInt8),k<=m+1/\i=J I k/\Hid (h.length=k)/\Hid (wr.ownsRow (A (B f)) 5 1 v k (qx h))/\Hid (Rd wr R (p+2+k))/\Hid (Only R f wr)) (λ_ i _=>m+1 - (intOf i).toNat);case atStart=>exact⟨0,[],by omega,rfl,rfl,W2,O.aa A2 ly,Only.q A2⟩
 case round =>
  obtain⟨k,h,hk,rfl,ZK,ZM,RR,ZN⟩:=hrel;have hsz:A (B f)<=A (B wr):=ZN.size;by_cases hlt:(k:Int)<=m;{go_wp2_with fail;refine(ay R (p+2+k) 4 _ RR (by omega) (by omega) (by omega)).mono ?_;rintro e ZO ⟨c,rfl,V,hc1,ZS,u⟩;obtain⟨C,hC⟩:=xO V (by omega);have M:=ae ZS;have ZR:=ae (ZN.trans u);have ZQ:=ae (fS ZM u H);have P:A (B f)<=A (B ZO):=ZR.size;clear ZS u;go_wp2_with (at_builtin;refine E4 _ rfl (.tmp 33) (.tmp 38) 22 rfl (A (B f)) 5 W (J .u8 0) 1 1 NL hi ZJ ex bt rfl (by decide) _ k (qx h) (by simp[Act.eval]) (ZQ.alloc _) (Q (A (B ZO)) 0 Z) 1 1 [J .u8 (C.toNat:Int)] (by simp[Act.eval]) rfl (fk _ _ _) (by simp[Value.oneCell']) (by unfold maxLen;omega) (by omega) (by simp;omega) ?_;intro v' w4 s o K;have O4:=ae s;have ZI:=ae (bg ((cM (A (B f)) ZO).alloc P (N #[J .u8 (C.toNat:Int)] 5)) o (by simp;omega) (λj e=>(ZQ.lt j e).1));clear s o K);refine⟨⟨k+1,h++[C],by omega,by go_num,by show(h++[C]).length=k+1;simp[ZK.out],?_,?_,ZR.then ZI.out⟩,by simp[intOf];omega⟩;{show World.ownsRow _ _ _ _ _ _ _;rw[zu];exact O4};{exact M.low ZI H}}
  ·have O5:=ae (O2.trans ZN);obtain⟨g,cap,rfl⟩:=ja ZM (by omega);have aq:=Bo h wr g cap k ZK.out (λj hj=>ZM.cells (g:=g) rfl j _ (by simp[qx,hj]));have r:(⟨h.toArray⟩:ByteArray).size<=8:=by show h.toArray.size<=8;have:=ZK.out;simp;omega
   have HZ:=ae r;generalize (⟨h.toArray⟩:ByteArray)=ZL at aq HZ;clear r;go_wp2;go_ret;exact⟨ZL,rfl,HZ,p+2+k,by omega,RR,O5⟩
def CI (w:E)(b:Nat)(x y z:ZB):Prop:=w.heap[b]?=T (N #[x,y,z] 146 (0,0))
theorem CI.new (w:E)(x y z:ZB):CI (w.alloc (N #[x,y,z] 146)) (A (B w)) x y z:=gM w _
theorem EI:(Pg.info? 146).map (·.size)=T 3:=by kernel_rfl
abbrev I3:=Int × List UInt8 × Int
def i3V (i:I3):List ZB:=[J I i.1,U ⟨i.2.1.toArray⟩,J I i.2.2]
def i3L (L:List I3):List ZB:=L.flatMap i3V
theorem iV:∀L:List I3,(i3L L).length=L.length*3
 |[]=>rfl
 |i::L=>by have:=iV L;simp only[i3L,LI,eL,xT] at this ⊢;rw[this];simp[i3V];omega
theorem Bp{f j:Nat}{v:ZB}{i:List ZB}(h:w.ownsRow b e f v n i)(hR:R<b)(u:ZB):(w.setCell (Q R j Z) u).ownsRow b e f v n i:=by
 refine⟨h.1,?_⟩;rcases h.2 with hn|⟨g,cap,l,p,m,o,r⟩
 {exact .inl hn}
 ·refine .inr ⟨g,cap,l,p,m,?_,r⟩;have:R≠g:=by omega
  simp[World.setCell,LE,this,o]
def PB (w:E)(b:Nat)(v:ZB):Prop:=w.heap[b]?=T (N #[v] 43 (0,0))
theorem PB.lt{v:ZB}(h:PB w b v):b<A (B w):=(DN.1 h).1
theorem PB.c0{v:ZB}(h:PB w b v):w.cell? (Q b 0 Z)=T v:=by rw[Lib.cell_of_heap h];rfl
theorem PB.fz{v:ZB}(h:PB w b v)(j:Nat):w.frozen? (Q b j Z)=false:=UI h j
theorem PB.aa{v:ZB}(h:PB w b v)(hb:Below ZS w f)(g:b<ZS):PB f b v:=(hb.block b g).trans h
theorem PB.set{v:ZB}(h:PB w b v)(f:ZB):PB (w.setCell (Q b 0 Z) f) b f:=by unfold PB at *;simp[World.setCell,LE,h]
theorem vr:(Pg.info? 43).map (·.size)=T 1:=by kernel_rfl
theorem oh{fn:Func}{p:Tmp}(h:fn.results=#[.cell p 146])(tmps:Array ZB)(w:E)(g:Nat)(x y z:ZB)(b:tmps.getD p undef=.pointer (T (Q g 0 Z)))(f:CI w g x y z):(results fn tmps).run Pg w=.ok (ZG #[x,y,z]) w :=
 results_cell_row h tmps w g 146 #[x,y,z] (0,0) _ b f underlying146 rfl EI
theorem bw (s:ByteArray)(w:E):Calls Pg 84 #[U s] w λe b=>e=ZF (ZG #[J I 1,U s,J I 0])/\Below (A (B w)) w b:=by
 go_enter func84,ntmps84;go_wp2;try simp only[Exit.inBlock,Exit.then]
 refine bp (oh rfl _ _ (A (B w)) _ _ _ rfl (CI.new w _ _ _)) rfl ?_;exact⟨rfl,br.alloc ly _⟩
theorem bm (op:Int)(w:E):Calls Pg 85 #[J I op] w λe b=>e=ZF (ZG #[J I op,U ⟨#[]⟩,J I 0])/\Below (A (B w)) w b:=by
 go_enter func85,ntmps85;go_wp2;try simp only[Exit.inBlock,Exit.then]
 refine bp (oh rfl _ _ (A (B w)) _ _ _ rfl (CI.new w _ _ _)) rfl ?_;exact⟨rfl,br.alloc ly _⟩
theorem bQ (op n:Int)(w:E):Calls Pg 130 #[J I op,J I n] w λe b=>e=ZF (ZG #[J I op,U ⟨#[]⟩,J I n])/\Below (A (B w)) w b:=by
 go_enter func130,ntmps130;go_wp2;try simp only[Exit.inBlock,Exit.then]
 refine bp (oh rfl _ _ (A (B w)) _ _ _ rfl (CI.new w _ _ _)) rfl ?_;exact⟨rfl,br.alloc ly _⟩
theorem nI (n:Int)(w:E):Calls Pg 163 #[J I n] w λe b=>e=ZF (J I (if 200<n then 200 else n))/\b=w:=by
 by_cases h:200<n;{rw[j6 h];go_enter func163,ntmps163;go_wp2;go_ret;exact⟨rfl,rfl⟩};{rw[eT h];go_enter func163,ntmps163;go_wp2;go_ret;exact⟨rfl,rfl⟩}
theorem dS (R p:Nat)(w:E)(hR:Rd w R p)(hp:(p:Int)<=90000):Calls Pg 60 #[.pointer (T (Q R 0 Z))] w λe j=>∃t:ByteArray,e=ZF (U t)/\t.size<=30/\Rd j R (p+1)/\Only R w j:=by
 have l:=ae hR;clear hR;go_enter func60,ntmps60;go_wp2_with fail;refine(ay R p 16 _ l (by omega) (by omega) (by omega)).mono ?_;rintro e w1 ⟨z,rfl,hz0,hz1,g,f⟩;have i:=ae g;have h:=ae f;clear g f;by_cases h6:z<6
 ·rcases(show z=0∨z=1∨z=2∨z=3∨z=4∨z=5 by omega) with rfl|rfl|rfl|rfl|rfl|rfl;all_goals
   go_wp2;go_ret;exact⟨_,rfl,by decide,i,h⟩
 ·by_cases h14:z<14
  ·obtain⟨m,rfl⟩:∃m:Nat,z=(m:Int)+6:=⟨(z - 6).toNat,by omega⟩
   have hm:m<=7:=by omega
   have DC:=ae (λV=>rq m (by omega) V);have hd:=EF m (by omega);go_wp2_with fail;refine(DC _).mono ?_;rintro e w2 ⟨rfl,b⟩;have o:=ae (i.aa b ly);have n:=ae (h.trans (Only.q b));clear b;go_wp2;go_ret;exact⟨_,rfl,by rw[MO];show 1+(Lib.decDigits m).length<=30;omega,o,n⟩
  {go_wp2;go_ret;exact⟨_,rfl,by decide,i,h⟩}
theorem ol:∃i,Pg.info? 146=T i/\i.zero=T (ZG #[J I 0,U ⟨#[]⟩,J I 0])/\i.size=3/\i.bytes=32:=by obtain⟨i,hi,hz⟩:=NP.1 nd;simp only[KH] at hz;exact⟨i,hi,hz⟩
def IR (w:E)(b g c:Nat)(L:List I3):Prop:=w.ownsRow b 146 3 (Y (T (Q g 0 Z)) L.length c) L.length (i3L L)
theorem IR.aa{c:Nat}{L:List I3}(h:IR w b g c L)(hb:Below ZS w f)(i:A (B w)<=ZS):IR f b g c L:=own_below h hb i
theorem IR.lt{c:Nat}{L:List I3}(h:IR w b g c L):b<=g/\g<A (B w):=World.ownsRow.lt h g rfl
theorem IR.ac{c:Nat}{L:List I3}(h:IR w b g c L)(i:Only R w f)(hR:R<b):IR f b g c L:=fS h i hR
theorem IR.lit (w:E):IR (w.alloc (N #[] 146)) (A (B w)) (A (B w)) 0 [] :=
 ⟨by simp[i3L],.inr ⟨A (B w),0,#[],rfl,nX _,gM w _,nX _,by unfold maxLen;omega,by simp,by simp[i3L]⟩⟩
theorem qy (L M:List I3):i3L (L++M)=i3L L++i3L M:=by simp[i3L]
theorem wA (L:List I3):∀u∈i3L L,u.oneCell'=true:=by intro u f;simp only[i3L,NE,i3V] at f;obtain⟨x,_,b⟩:=f;simp at b;rcases b with rfl|rfl|rfl<;>simp[Value.oneCell']
theorem ik (b off j:Nat):((Q b off Z):Addr).add j=(Q b (off+j) Z):=by unfold Addr.add;split<;>simp_all
theorem ew (w:E)(b:Array ZB)(t:ZH):∀j u,b.toList[j]?=T u->(w.alloc (N b t)).cell? (((Q (A (B w)) 0 Z):Addr).add j)=T u:=by intro j u f;rw[ik,IT];exact jO w b t (A (B w)) j u rfl (by simpa using f)
theorem IR.news{c:Nat}{L:List I3}(h:IR w b g c L):∀j u,(i3L L)[j]?=T u->w.cell? (((Q g 0 Z):Addr).add j)=T u:=λj u f=>World.ownsRow.cells h (g:=g) rfl j u f
theorem fY{q:Array Oper}{rest:List Oper}{o:Oper}{a:Act}{ZM:Exit->Act->E->Prop}(ZR:o.guard=Z)(s x:Operand)
  (K:o.op=.call { callee:=.builtin .append,args:=#[s,x],argTypes:=#[41,41] }) (b g c:Nat) (L:List I3) (H:a.eval s=Y (T (Q g 0 Z)) L.length c) (t:IR w b g c L)
  (y:Addr) (m d:Nat) (M:List I3) (ZP:a.eval x=Y (T y) m d) (G:m=M.length) (ZS:M≠[]) (p:∀j u,(i3L M)[j]?=T u->w.cell? (y.add j)=T u) (hlen:L.length+M.length<=100000) (hb:b<=A (B w))
  (h:∀f i l,IR l b f i (L++M)->w.grownBy l (T g)->wpList Pg q ZM rest (a.put o.dst (Y (T (Q f 0 Z)) (L++M).length i)) l):wpList Pg q ZM (o::rest) a w:=by
 obtain⟨ZN,hi,C,z,D⟩:=ol;subst G;refine E4 _ ZR s x 41 K b 146 ZN (ZG #[J I 0,U ⟨#[]⟩,J I 0]) 3 32 MV hi C z D rfl (by decide) _ L.length (i3L L) H t y M.length d (i3L M) ZP (iV M) p (wA M) (by unfold maxLen;omega) (by omega) hb ?_;intro ZO l n ZQ _;have hp:0<M.length:=LG.2 ZS;have r:∃f i,ZO=Y (T (Q f 0 Z)) (L.length+M.length) i:=by
  rcases n.2 with ⟨_,h0⟩|⟨f,cap,cur,r,_⟩
  {omega};{exact⟨f,cap,r⟩}
 obtain⟨f,i,rfl⟩:=r;have e:(L++M).length=L.length+M.length:=eL;rw[<-e] at n ⊢;rw[<-qy] at n;exact h f i l n ZQ
def DI (w:E)(R q n:Nat)(e:Ending)(b:E):Prop:=∃(L:List I3) (g c:Nat),e=ZF (Y (T (Q g 0 Z)) L.length c)/\IR b (A (B w)) g c L/\L≠[]/\L.length<=n/\(∀i∈L,i.2.1.length<=5000)/\∃f:Nat,f<=q/\Rd b R f/\Only R w b
theorem tE:∀(L:List I3) (i:Nat) (n:Int) (x:I3),L[i]?=T x->i3L (L.set i (x.1,x.2.1,n))=(i3L L).set (i*3+2) (J I n)
 |[],i,n,x,h=>by simp at h
 |y::L,0,n,x,h=>by simp at h;subst h;rfl
 |y::L,i+1,n,x,h=>by simp at h;have f:=tE L i n x h;have b:(i3V y).length=3:=rfl;rw[Q2];show i3V y++i3L (L.set i (x.1,x.2.1,n))=(i3V y++i3L L).set ((i+1)*3+2) (J I n);rw[f,PU _ _ (by rw[b];omega),b,show(i+1)*3+2 - 3=i*3+2 by omega]
theorem IR.setN{c:Nat}{L:List I3}(h:IR w b g c L)(hi:i<L.length)(n:Int):∃j,j.length=L.length/\((∀x∈L,x.2.1.length<=5000)->∀x∈j,x.2.1.length<=5000)/\IR (w.setCell (Q g (i*3+2) Z) (J I n)) b g c j:=by
 have r:L[i]?=T L[i]:=gq hi;refine⟨L.set i (L[i].1,L[i].2.1,n),KQ,λl x p=>?_,?_⟩;{rcases LN p with h1|h1;{exact l x h1};{rw[h1];exact l L[i] (gz hi)}}
 ·unfold IR;rw[KQ,tE L i n L[i] r];refine⟨by rw[KQ];exact h.1,?_⟩;rcases h.2 with ⟨f,h0⟩|⟨g',cap,m,f,hb,o,h1,h2,s,q⟩
  {simp at f};{simp only[KK,KJ,OT] at f;obtain⟨⟨rfl,-⟩,-,rfl⟩:=f;refine .inr ⟨g,c,m.setIfInBounds (i*3+2) (J I n),rfl,hb,?_,h1,h2,by simpa using s,?_⟩;{simp[World.setCell,LE,o]};{rw[NS,U3,q]}}
theorem IR.cellN{f c:Nat}{L:List I3}(h:IR w f g c L)(hi:i<L.length):(∃v,w.cell? (Q g (i*3+2) Z)=T (J I v))/\w.frozen? (Q g (i*3+2) Z)=false:=by
 have o:L[i]?=T L[i]:=gq hi;have m:∀(L:List I3) (i:Nat) (x:I3),L[i]?=T x->(i3L L)[i*3+2]?=T (J I x.2.2):=by
  intro L;induction L with
  |nil=>intro i x h;simp at h
  |cons y L p =>
   intro i x h;cases i with
   |zero=>simp at h;subst h;rfl
   |succ i =>simp at h;have l:(i3V y).length=3:=rfl;show(i3V y++i3L L)[(i+1)*3+2]?=_;rw[KL (by rw[l];omega),l,show(i+1)*3+2 - 3=i*3+2 by omega];exact p i x h
 have j:=World.ownsRow.cells h (g:=g) rfl _ _ (m L i L[i] o);rw[ik,IT] at j;refine⟨⟨_,j⟩,?_⟩;rcases h.2 with ⟨b,_⟩|⟨g',cap,cur,b,_,n,_⟩
 {simp at b};{simp only[KK,KJ,OT] at b;obtain⟨⟨rfl,-⟩,-,rfl⟩:=b;exact UI n _}
