import Derived.Test.YthkpcehepgmdgaaGreatDoorTW
import Derived.Lib.Builder
import Derived.Laws.ResultCell
import Derived.Laws.Rows
import Derived.Lib.IndexMore
import Derived.Lib.AtoiAll
import Derived.Test.YthkpcehepgmdgaaGreatDoorTP
set_option maxRecDepth 100000
set_option maxHeartbeats 4000000
set_option linter.unusedSimpArgs false
open Go renaming Addr.mk->Q,Value.slice->Z,Value.string->U,Value.int->J,Value.agg->ZH,Obj.cells->N,IntKind.i64->I,World->G,Value->ZD,TypeId->ZI,Ending.returned->ZG,World.ownsRow->ZT,Proofs.Tryz.prog->Pg
open Option renaming none->Y,some->T
open List renaming length->A
namespace Go.Proofs.YthkpcehepgmdgaaGreatDoor.Vp
open Tryz RowKit
variable {w f:G}{b g R i n B:Nat}{e:ZI}
def qj (b:List UInt8):List ZD:=b.map λc=>J .u8 (c.toNat:Int)
theorem FW:(Pg.info? 5).map (λi=>(i.zero,i.size,i.bytes))=T (T (J .u8 0),1,1):=by kernel_rfl
theorem fV{l:G}{size:Nat}{v:ZD}{i:List ZD}(h:ZT w b e size v n i)(f:Only R w l)(hR:R<b):ZT l b e size v n i:=by
 refine h.kept (row:=T R) ⟨f.os,f.tape,f.output,f.size,λk m j=>f.block k m (by simpa using j)⟩ ?_;rcases h.2 with ⟨rfl,_⟩|⟨g,cap,cur,rfl,hg,_⟩
 {exact .inl rfl};{right;simp[Value.ownBlock];omega}
theorem xL{z:Int}(b:0<=z)(h1:z<159):∃c:UInt8,97+z=(c.toNat:Int):=by obtain⟨k,rfl⟩:=p9 b;refine⟨UInt8.ofNat (97+k),?_⟩;rw[UInt8.toNat_ofNat'];omega
theorem zy (b:List UInt8)(c:UInt8):qj (b++[c])=qj b++[J .u8 (c.toNat:Int)]:=by simp[qj]
theorem Be (b:List UInt8)(w:G)(g cap k:Nat)(h:A b=k)(i:∀j (f:j<A b),w.cell? (((Q g 0 Y):Addr).add j)=T (J .u8 (b[j].toNat:Int))):(convert 22 9 (Z (T (Q g 0 Y)) k cap)).run Pg w=.ok (U ⟨b.toArray⟩) w:=by subst h;refine PH _ 22 9 5 (Q g 0 Y) cap b MS MG LH ?_;intro j f;exact i j f
theorem gL (R p:Nat)(w:G)(hR:Rd w R p)(hp:(p:Int)<=50000):Calls Pg 62 #[.pointer (T (Q R 0 Y))] w λe X=>∃t:ByteArray,e=ZG (U t)/\t.size<=8/\∃q:Nat,q<=p+8/\Rd X R q/\Only R w X:=by
 have HR:=ae hR;clear hR;go_enter func62,ntmps62;go_wp2_with fail;refine(ar R p 12 _ HR (by omega) (by omega) (by omega)).mono ?_;rintro e n ⟨z,rfl,hz0,hz1,B,ZQ⟩;have x:=ae B;have P:=ae ZQ;clear B ZQ;by_cases h3:z=3
 ·subst h3;have M:=ae ((q9 n).alloc ly (N #[U ⟨#[97,32,98]⟩,U ⟨#[97,9,98,32,99]⟩] 9));have ZN:=ae (x.aa M ly);have k0:(n.alloc (N #[U ⟨#[97,32,98]⟩,U ⟨#[97,9,98,32,99]⟩] 9)).cell? (Q n.heap.size 0 Y)=T (U ⟨#[97,32,98]⟩):=by simp
  have W:(n.alloc (N #[U ⟨#[97,32,98]⟩,U ⟨#[97,9,98,32,99]⟩] 9)).cell? (Q n.heap.size 1 Y)=T (U ⟨#[97,9,98,32,99]⟩):=by simp
  go_wp2_with fail;refine(ar R (p+1) 2 _ ZN (by omega) (by omega) (by omega)).mono ?_;rintro e b ⟨y,rfl,D,n7,l,f⟩;have hl:=x.lt;have j0:=(f.cell n.heap.size 0 (by simp) (by omega)).trans k0;have j1:=(f.cell n.heap.size 1 (by simp) (by omega)).trans W;have S:=ae l;have ZU:=ae ((P.trans (Only.q M)).trans f);clear l f k0 W M;rcases(show y=0∨y=1 by omega) with rfl|rfl;all_goals
   go_wp2;go_ret;exact⟨_,rfl,by decide,p+1+1,by omega,S,ZU⟩
 by_cases h6:z<6
 ·rcases(show z=0∨z=1∨z=2∨z=4∨z=5 by omega) with rfl|rfl|rfl|rfl|rfl;all_goals
   go_wp2;go_ret;exact⟨_,rfl,by decide,p+1,by omega,x,P⟩
 have n0:¬ z=0:=by omega
 have n1:¬ z=1:=by omega
 have n2:¬ z=2:=by omega
 have n4:¬ z=4:=by omega
 have n5:¬ z=5:=by omega
 go_wp2_with fail;refine(ar R (p+1) 5 _ x (by omega) (by omega) (by omega)).mono ?_;rintro e b ⟨y,rfl,D,n7,l,f⟩;have ZN:=ae l;have O2:=ae (P.trans f);have H:=l.lt;clear l f;have V:=ae ((q9 b).alloc ly (N #[] 5));have W2:=ae (LK b #[] 0 (e:=5) (size:=1) (j6 b.heap.size) (by unfold maxLen;omega) rfl);obtain⟨m,rfl⟩:=p9 D;obtain⟨ex,hi,fd,ld,bt⟩:=KQ FW;go_wp2;go_loopw [4,5] (λv i wr=>∃(k:Nat) (h:List UInt8),k<=m+1/\i=J I k/\Hid (A h=k)/\Hid (ZT wr b.heap.size 5 1 v k (qj h))/\Hid (Rd wr R (p+2+k))/\Hid (Only R b wr)) (λ_ i _=>m+1 - (intOf i).toNat);case atStart=>exact⟨0,[],by omega,rfl,rfl,W2,ZN.aa V ly,Only.q V⟩
 case round =>
  obtain⟨k,h,hk,rfl,O,K,ZK,L⟩:=hrel;have hsz:b.heap.size<=wr.heap.size:=L.size;by_cases hlt:(k:Int)<=m;{go_wp2_with fail;refine(ar R (p+2+k) 4 _ ZK (by omega) (by omega) (by omega)).mono ?_;rintro e ZO ⟨c,rfl,la,hc1,E,s⟩;obtain⟨C,hC⟩:=xL la (by omega);have S:=ae E;have ZU:=ae (L.trans s);have ZS:=ae (fV K s H);have ZL:b.heap.size<=ZO.heap.size:=ZU.size;clear E s;go_wp2_with (at_builtin;refine DD _ rfl (.tmp 33) (.tmp 38) 22 rfl b.heap.size 5 ex (J .u8 0) 1 1 MS hi fd ld bt rfl (by decide) _ k (qj h) (by simp[Act.eval]) (ZS.alloc _) (Q ZO.heap.size 0 Y) 1 1 [J .u8 (C.toNat:Int)] (by simp[Act.eval]) rfl (fs _ _ _) (by simp[Value.oneCell']) (by unfold maxLen;omega) (by omega) (by simp;omega) ?_;intro v' w4 u o ZP;have O4:=ae u;have B4:=ae (bg ((cM b.heap.size ZO).alloc ZL (N #[J .u8 (C.toNat:Int)] 5)) o (by simp;omega) (λj e=>(ZS.lt j e).1));clear u o ZP);refine⟨⟨k+1,h++[C],by omega,by go_num,by show(h++[C]).length=k+1;simp[O.out],?_,?_,ZU.then B4.out⟩,by simp[intOf];omega⟩;{show World.ownsRow _ _ _ _ _ _ _;rw[zy];exact O4};{exact S.low B4 H}}
  ·have O5:=ae (O2.trans L);obtain⟨g,cap,rfl⟩:=jk K (by omega);have aq:=Be h wr g cap k O.out (λj hj=>K.cells (g:=g) rfl j _ (by simp[qj,hj]));have r:(⟨h.toArray⟩:ByteArray).size<=8:=by show h.toArray.size<=8;have:=O.out;simp;omega
   have ZJ:=ae r;generalize (⟨h.toArray⟩:ByteArray)=ZM at aq ZJ;clear r;go_wp2;go_ret;exact⟨ZM,rfl,ZJ,p+2+k,by omega,ZK,O5⟩
def CI (w:G)(b:Nat)(x y z:ZD):Prop:=w.heap[b]?=T (N #[x,y,z] 90 (0,0))
theorem CI.new (w:G)(x y z:ZD):CI (w.alloc (N #[x,y,z] 90)) w.heap.size x y z:=nD w _
theorem Eu:(Pg.info? 90).map (·.size)=T 3:=by kernel_rfl
abbrev I3:=Int × List UInt8 × Int
def i3V (i:I3):List ZD:=[J I i.1,U ⟨i.2.1.toArray⟩,J I i.2.2]
def i3L (L:List I3):List ZD:=L.flatMap i3V
theorem jc:∀L:List I3,(i3L L).length=A L*3
 |[]=>rfl
 |i::L=>by have:=jc L;simp only[i3L,LI,gB,p6] at this ⊢;rw[this];simp[i3V];omega
theorem Bf{j:Nat}{v:ZD}{f:List ZD}(h:ZT w b e i v n f)(hR:R<b)(u:ZD):(w.setCell (Q R j Y) u).ownsRow b e i v n f:=by
 refine⟨h.1,?_⟩;rcases h.2 with hn|⟨g,cap,l,m,o,p,r⟩
 {exact .inl hn}
 ·refine .inr ⟨g,cap,l,m,o,?_,r⟩;have:R≠g:=by omega
  simp[World.setCell,KZ,this,p]
def PB (w:G)(b:Nat)(v:ZD):Prop:=w.heap[b]?=T (N #[v] 41 (0,0))
theorem PB.lt{v:ZD}(h:PB w b v):b<w.heap.size:=(A9.1 h).1
theorem PB.c0{v:ZD}(h:PB w b v):w.cell? (Q b 0 Y)=T v:=by rw[Lib.cell_of_heap h];rfl
theorem PB.fz{v:ZD}(h:PB w b v)(j:Nat):w.frozen? (Q b j Y)=false:=UH h j
theorem PB.aa{v:ZD}(h:PB w b v)(hb:Below B w f)(g:b<B):PB f b v:=(hb.block b g).trans h
theorem PB.set{v:ZD}(h:PB w b v)(f:ZD):PB (w.setCell (Q b 0 Y) f) b f:=by unfold PB at *;simp[World.setCell,KZ,h]
theorem vg:(Pg.info? 41).map (·.size)=T 1:=by kernel_rfl
theorem ox{fn:Func}{p:Tmp}(h:fn.results=#[.cell p 90])(tmps:Array ZD)(w:G)(g:Nat)(x y z:ZD)(f:tmps.getD p undef=.pointer (T (Q g 0 Y)))(b:CI w g x y z):(results fn tmps).run Pg w=.ok (ZH #[x,y,z]) w :=
 results_cell_row h tmps w g 90 #[x,y,z] (0,0) _ f b underlying90 rfl Eu
theorem bi (s:ByteArray)(w:G):Calls Pg 41 #[U s] w λe b=>e=ZG (ZH #[J I 1,U s,J I 0])/\Below w.heap.size w b:=by
 go_enter func41,ntmps41;go_wp2;try simp only[Exit.inBlock,Exit.then]
 refine bp (ox rfl _ _ w.heap.size _ _ _ rfl (CI.new w _ _ _)) rfl ?_;exact⟨rfl,br.alloc ly _⟩
theorem aT (op:Int)(w:G):Calls Pg 40 #[J I op] w λe b=>e=ZG (ZH #[J I op,U ⟨#[]⟩,J I 0])/\Below w.heap.size w b:=by
 go_enter func40,ntmps40;go_wp2;try simp only[Exit.inBlock,Exit.then]
 refine bp (ox rfl _ _ w.heap.size _ _ _ rfl (CI.new w _ _ _)) rfl ?_;exact⟨rfl,br.alloc ly _⟩
theorem bM (op n:Int)(w:G):Calls Pg 90 #[J I op,J I n] w λe b=>e=ZG (ZH #[J I op,U ⟨#[]⟩,J I n])/\Below w.heap.size w b:=by
 go_enter func90,ntmps90;go_wp2;try simp only[Exit.inBlock,Exit.then]
 refine bp (ox rfl _ _ w.heap.size _ _ _ rfl (CI.new w _ _ _)) rfl ?_;exact⟨rfl,br.alloc ly _⟩
theorem nM (n:Int)(w:G):Calls Pg 117 #[J I n] w λe b=>e=ZG (J I (if 200<n then 200 else n))/\b=w:=by
 by_cases h:200<n;{rw[hU h];go_enter func117,ntmps117;go_wp2;go_ret;exact⟨rfl,rfl⟩};{rw[eT h];go_enter func117,ntmps117;go_wp2;go_ret;exact⟨rfl,rfl⟩}
theorem dL (R p:Nat)(w:G)(hR:Rd w R p)(hp:(p:Int)<=90000):Calls Pg 43 #[.pointer (T (Q R 0 Y))] w λe j=>∃t:ByteArray,e=ZG (U t)/\t.size<=30/\Rd j R (p+1)/\Only R w j:=by
 have l:=ae hR;clear hR;go_enter func43,ntmps43;go_wp2_with fail;refine(ar R p 16 _ l (by omega) (by omega) (by omega)).mono ?_;rintro e w1 ⟨z,rfl,hz0,hz1,f,g⟩;have h:=ae f;have i:=ae g;clear f g;by_cases h6:z<6
 ·rcases(show z=0∨z=1∨z=2∨z=3∨z=4∨z=5 by omega) with rfl|rfl|rfl|rfl|rfl|rfl;all_goals
   go_wp2;go_ret;exact⟨_,rfl,by decide,h,i⟩
 ·by_cases h14:z<14
  ·obtain⟨m,rfl⟩:∃m:Nat,z=(m:Int)+6:=⟨(z - 6).toNat,by omega⟩
   have hm:m<=7:=by omega
   have DC:=ae (λV=>qS m (by omega) V);have hd:=Es m (by omega);go_wp2_with fail;refine(DC _).mono ?_;rintro e w2 ⟨rfl,b⟩;have o:=ae (h.aa b ly);have n:=ae (i.trans (Only.q b));clear b;go_wp2;go_ret;exact⟨_,rfl,by rw[L9];show 1+(Lib.decDigits m).length<=30;omega,o,n⟩
  {go_wp2;go_ret;exact⟨_,rfl,by decide,h,i⟩}
theorem jp:∃i,Pg.info? 90=T i/\i.zero=T (ZH #[J I 0,U ⟨#[]⟩,J I 0])/\i.size=3/\i.bytes=32:=by obtain⟨i,hi,hz⟩:=MP.1 mW;simp only[KJ] at hz;exact⟨i,hi,hz⟩
def IR (w:G)(b g c:Nat)(L:List I3):Prop:=ZT w b 90 3 (Z (T (Q g 0 Y)) (A L) c) (A L) (i3L L)
theorem IR.aa{c:Nat}{L:List I3}(h:IR w b g c L)(hb:Below B w f)(i:w.heap.size<=B):IR f b g c L:=own_below h hb i
theorem IR.lt{c:Nat}{L:List I3}(h:IR w b g c L):b<=g/\g<w.heap.size:=World.ownsRow.lt h g rfl
theorem IR.ac{c:Nat}{L:List I3}(h:IR w b g c L)(i:Only R w f)(hR:R<b):IR f b g c L:=fV h i hR
theorem IR.lit (w:G):IR (w.alloc (N #[] 90)) w.heap.size w.heap.size 0 [] :=
 ⟨by simp[i3L],.inr ⟨w.heap.size,0,#[],rfl,j6 _,nD w _,j6 _,by unfold maxLen;omega,by simp,by simp[i3L]⟩⟩
theorem qk (L M:List I3):i3L (L++M)=i3L L++i3L M:=by simp[i3L]
theorem wu (L:List I3):∀u∈i3L L,u.oneCell'=true:=by intro u f;simp only[i3L,MK,i3V] at f;obtain⟨x,_,b⟩:=f;simp at b;rcases b with rfl|rfl|rfl<;>simp[Value.oneCell']
theorem gA (b off j:Nat):((Q b off Y):Addr).add j=(Q b (off+j) Y):=by unfold Addr.add;split<;>simp_all
theorem eG (w:G)(b:Array ZD)(t:ZI):∀j u,b.toList[j]?=T u->(w.alloc (N b t)).cell? (((Q w.heap.size 0 Y):Addr).add j)=T u:=by intro j u f;rw[gA,E4];exact jT w b t w.heap.size j u rfl (by simpa using f)
theorem IR.bf{c:Nat}{L:List I3}(h:IR w b g c L):∀j u,(i3L L)[j]?=T u->w.cell? (((Q g 0 Y):Addr).add j)=T u:=λj u f=>OT h (g:=g) rfl j u f
theorem gC{q:Array Oper}{rest:List Oper}{o:Oper}{a:Act}{ZN:Exit->Act->G->Prop}(C:o.guard=Y)(s x:Operand)
  (ZQ:o.op=.call { callee:=.builtin .append,args:=#[s,x],argTypes:=#[39,39] }) (b g c:Nat) (L:List I3) (ZO:a.eval s=Z (T (Q g 0 Y)) (A L) c) (y:IR w b g c L)
  (t:Addr) (m d:Nat) (M:List I3) (ZS:a.eval x=Z (T t) m d) (H:m=A M) (B:M≠[]) (p:∀j u,(i3L M)[j]?=T u->w.cell? (t.add j)=T u) (hlen:A L+A M<=100000) (hb:b<=w.heap.size)
  (h:∀f i l,IR l b f i (L++M)->w.grownBy l (T g)->wpList Pg q ZN rest (a.put o.dst (Z (T (Q f 0 Y)) (L++M).length i)) l):wpList Pg q ZN (o::rest) a w:=by
 obtain⟨K,hi,D,ZU,z⟩:=jp;subst H;refine DD _ C s x 39 ZQ b 90 K (ZH #[J I 0,U ⟨#[]⟩,J I 0]) 3 32 MB hi D ZU z rfl (by decide) _ (A L) (i3L L) ZO y t (A M) d (i3L M) ZS (jc M) p (wu M) (by unfold maxLen;omega) (by omega) hb ?_;intro ZP l n E _;have hp:0<A M:=LE.2 B;have r:∃f i,ZP=Z (T (Q f 0 Y)) (A L+A M) i:=by
  rcases n.2 with ⟨_,h0⟩|⟨f,cap,cur,r,_⟩
  {omega};{exact⟨f,cap,r⟩}
 obtain⟨f,i,rfl⟩:=r;have e:(L++M).length=A L+A M:=gB;rw[<-e] at n ⊢;rw[<-qk] at n;exact h f i l n E
def DI (w:G)(R q n:Nat)(e:Ending)(b:G):Prop:=∃(L:List I3) (g c:Nat),e=ZG (Z (T (Q g 0 Y)) (A L) c)/\IR b w.heap.size g c L/\L≠[]/\(A L)<=n/\(∀i∈L,i.2.1.length<=5000)/\∃f:Nat,f<=q/\Rd b R f/\Only R w b
theorem ts:∀(L:List I3) (i:Nat) (n:Int) (x:I3),L[i]?=T x->i3L (L.set i (x.1,x.2.1,n))=(i3L L).set (i*3+2) (J I n)
 |[],i,n,x,h=>by simp at h
 |y::L,0,n,x,h=>by simp at h;subst h;rfl
 |y::L,i+1,n,x,h=>by simp at h;have f:=ts L i n x h;have b:(i3V y).length=3:=rfl;rw[QX];show i3V y++i3L (L.set i (x.1,x.2.1,n))=(i3V y++i3L L).set ((i+1)*3+2) (J I n);rw[f,P6 _ _ (by rw[b];omega),b,show(i+1)*3+2 - 3=i*3+2 by omega]
theorem IR.setN{c:Nat}{L:List I3}(h:IR w b g c L)(hi:i<A L)(n:Int):∃j,A j=A L/\((∀x∈L,x.2.1.length<=5000)->∀x∈j,x.2.1.length<=5000)/\IR (w.setCell (Q g (i*3+2) Y) (J I n)) b g c j:=by
 have s:L[i]?=T L[i]:=gq hi;refine⟨L.set i (L[i].1,L[i].2.1,n),KP,λl x o=>?_,?_⟩;{rcases LN o with h1|h1;{exact l x h1};{rw[h1];exact l L[i] (gz hi)}}
 ·unfold IR;rw[KP,ts L i n L[i] s];refine⟨by rw[KP];exact h.1,?_⟩;rcases h.2 with ⟨f,h0⟩|⟨g',cap,m,f,hb,r,h1,h2,p,q⟩
  {simp at f};{simp only[KU,KN,OR] at f;obtain⟨⟨rfl,-⟩,-,rfl⟩:=f;refine .inr ⟨g,c,m.setIfInBounds (i*3+2) (J I n),rfl,hb,?_,h1,h2,by simpa using p,?_⟩;{simp[World.setCell,KZ,r]};{rw[MU,SY,q]}}
theorem IR.cellN{f c:Nat}{L:List I3}(h:IR w f g c L)(hi:i<A L):(∃v,w.cell? (Q g (i*3+2) Y)=T (J I v))/\w.frozen? (Q g (i*3+2) Y)=false:=by
 have o:L[i]?=T L[i]:=gq hi;have l:∀(L:List I3) (i:Nat) (x:I3),L[i]?=T x->(i3L L)[i*3+2]?=T (J I x.2.2):=by
  intro L;induction L with
  |nil=>intro i x h;simp at h
  |cons y L p =>
   intro i x h;cases i with
   |zero=>simp at h;subst h;rfl
   |succ i =>simp at h;have m:(i3V y).length=3:=rfl;show(i3V y++i3L L)[(i+1)*3+2]?=_;rw[KL (by rw[m];omega),m,show(i+1)*3+2 - 3=i*3+2 by omega];exact p i x h
 have j:=OT h (g:=g) rfl _ _ (l L i L[i] o);rw[gA,E4] at j;refine⟨⟨_,j⟩,?_⟩;rcases h.2 with ⟨b,_⟩|⟨g',cap,cur,b,_,n,_⟩
 {simp at b};{simp only[KU,KN,OR] at b;obtain⟨⟨rfl,-⟩,-,rfl⟩:=b;exact UH n _}
