import Derived.Test.YtamacmnikdejeaaGreatDoorZW
import Derived.Lib.Builder
import Derived.Laws.ResultCell
import Derived.Laws.Rows
import Derived.Lib.IndexMore
import Derived.Lib.AtoiAll
import Derived.Test.YtamacmnikdejeaaGreatDoorZP
set_option maxRecDepth 100000
set_option maxHeartbeats 4000000
set_option linter.unusedSimpArgs false
open Go.Addr renaming mk->T
open Go.Value renaming slice->Y,string->U,int->I,agg->QV
open Option renaming none->Z,some->N
open Go.Obj renaming cells->Q
open Go.IntKind renaming i64->J
open Go renaming World->H,Value->QS
open Go.Ending renaming returned->QU
namespace Go.Proofs.YtamacmnikdejeaaGreatDoor.Vp
open RowKit
def qv (b:List UInt8):List QS:=b.map fun c=>I .u8 (c.toNat:Int)
theorem FM:(Tryz.prog.info? 5).map (fun i=>(i.zero,i.size,i.bytes))=N (N (I .u8 0),1,1):=by kernel_rfl
theorem gw {w i:H}{b R:Nat}{e:TypeId}{size n:Nat}{v:QS}{j:List QS}(h:w.ownsRow b e size v n j)(c:Only R w i)(hR:R<b):i.ownsRow b e size v n j:=by
 refine h.kept (row:=N R) ⟨c.os,c.tape,c.output,c.size,fun k l f=>c.block k l (by simpa using f)⟩ ?_;rcases h.2 with ⟨rfl,_⟩ | ⟨g,cap,cur,rfl,hg,_⟩
 ·exact .inl rfl
 ·right
  simp[Value.ownBlock];omega
theorem xN {z:Int}(b:0<=z)(h1:z<159):∃ c:UInt8,97+z=(c.toNat:Int):=by obtain⟨k,rfl⟩:=nL b;refine⟨UInt8.ofNat (97+k),?_⟩;rw[UInt8.toNat_ofNat'];omega
theorem zD (b:List UInt8)(c:UInt8):qv (b++[c])=qv b++[I .u8 (c.toNat:Int)]:=by simp[qv]
theorem BU (b:List UInt8)(w:H)(g cap k:Nat)(f:b.length=k)(h:∀ j (c:j<b.length),w.cell? (((T g 0 Z):Addr).add j)=N (I .u8 (b[j].toNat:Int))):(convert 22 9 (Y (N (T g 0 Z)) k cap)).run Tryz.prog w=.ok (U ⟨b.toArray⟩) w:=by subst f;refine OR _ 22 9 5 (T g 0 Z) cap b Tryz.underlying22 Tryz.underlying5 Tryz.underlying9 ?_;intro j c;exact h j c
theorem fP (R p:Nat)(w:H)(hR:Rd w R p)(hp:(p:Int)<=50000):Calls Tryz.prog 64 #[.pointer (N (T R 0 Z))] w fun e w'=>∃ t:ByteArray,e=QU (U t)/\t.size<=8/\∃ q:Nat,q<=p+8/\Rd w' R q/\Only R w w':=by
 have HR:=ae hR;clear hR;go_enter Tryz.func64,Tryz.ntmps64;go_wp2_with fail;refine(aw R p 12 _ HR (by omega) (by omega) (by omega)).mono ?_;rintro e n ⟨z,rfl,hz0,hz1,D,E⟩;have x:=ae D;have Q0:=ae E;clear D E;by_cases h3:z=3
 ·subst h3
  have QZ:=ae ((q9 n).alloc ly (Q #[U ⟨#[97,32,98]⟩,U ⟨#[97,9,98,32,99]⟩] 9));have L:=ae (x.below QZ ly);have k0:(n.alloc (Q #[U ⟨#[97,32,98]⟩,U ⟨#[97,9,98,32,99]⟩] 9)).cell? (T n.heap.size 0 Z)=N (U ⟨#[97,32,98]⟩):=by simp
  have QW:(n.alloc (Q #[U ⟨#[97,32,98]⟩,U ⟨#[97,9,98,32,99]⟩] 9)).cell? (T n.heap.size 1 Z)=N (U ⟨#[97,9,98,32,99]⟩):=by simp
  go_wp2_with fail;refine(aw R (p+1) 2 _ L (by omega) (by omega) (by omega)).mono ?_;rintro e f ⟨y,rfl,G,fd,l,b⟩;have hl:=x.lt;have j0:=(b.cell n.heap.size 0 (by simp) (by omega)).trans k0;have j1:=(b.cell n.heap.size 1 (by simp) (by omega)).trans QW;have K:=ae l;have A:=ae ((Q0.trans (Only.of_below QZ)).trans b);clear l b k0 QW QZ;rcases(show y=0∨y=1 by omega) with rfl | rfl;all_goals
   go_wp2;go_ret;exact⟨_,rfl,by decide,p+1+1,by omega,K,A⟩
 by_cases h6:z<6
 ·rcases(show z=0∨z=1∨z=2∨z=4∨z=5 by omega) with rfl | rfl | rfl | rfl | rfl
  all_goals
   go_wp2;go_ret;exact⟨_,rfl,by decide,p+1,by omega,x,Q0⟩
 have n0:¬ z=0:=by omega
 have n1:¬ z=1:=by omega
 have n2:¬ z=2:=by omega
 have n4:¬ z=4:=by omega
 have n5:¬ z=5:=by omega
 go_wp2_with fail;refine(aw R (p+1) 5 _ x (by omega) (by omega) (by omega)).mono ?_;rintro e f ⟨y,rfl,G,fd,l,b⟩;have L:=ae l;have O2:=ae (Q0.trans b);have F:=l.lt;clear l b;have A2:=ae ((q9 f).alloc ly (Q #[] 5));have W2:=ae (J9 f #[] 0 (e:=5) (size:=1) (j5 f.heap.size) (by unfold maxLen;omega) rfl);obtain⟨m,rfl⟩:=nL G;obtain⟨W,hi,QY,QX,aq⟩:=JV FM;go_wp2;go_loopw [4,5] (fun v i wr=>∃ (k:Nat) (h:List UInt8),k<=m+1/\i=I J k/\Hid (h.length=k)/\Hid (wr.ownsRow f.heap.size 5 1 v k (qv h))/\Hid (Rd wr R (p+2+k))/\Hid (Only R f wr)) (fun _ i _=>m+1 - (intOf i).toNat);case atStart=>exact⟨0,[],by omega,rfl,rfl,W2,L.below A2 ly,Only.of_below A2⟩
 case round =>
  obtain⟨k,h,hk,rfl,M,S,RR,P⟩:=hrel;have hsz:f.heap.size<=wr.heap.size:=P.size;by_cases hlt:(k:Int)<=m
  ·go_wp2_with fail
   refine(aw R (p+2+k) 4 _ RR (by omega) (by omega) (by omega)).mono ?_;rintro e Q9 ⟨c,rfl,V,hc1,ZB,r⟩;obtain⟨C,hC⟩:=xN V (by omega);have K:=ae ZB;have A:=ae (P.trans r);have B:=ae (gw S r F);have ZA:f.heap.size<=Q9.heap.size:=A.size;clear ZB r;go_wp2_with (at_builtin;refine wC _ rfl (.tmp 33) (.tmp 38) 22 rfl f.heap.size 5 W (I .u8 0) 1 1 Tryz.underlying22 hi QY QX aq rfl (by decide) _ k (qv h) (by simp[Act.eval]) (B.alloc _) (T Q9.heap.size 0 Z) 1 1 [I .u8 (C.toNat:Int)] (by simp[Act.eval]) rfl (dW _ _ _) (by simp[Value.oneCell']) (by unfold maxLen;omega) (by omega) (by simp;omega) ?_;intro v' w4 u o O;have O4:=ae u;have B4:=ae (bg ((eL f.heap.size Q9).alloc ZA (Q #[I .u8 (C.toNat:Int)] 5)) o (by simp;omega) (fun j e=>(B.lt j e).1));clear u o O);refine⟨⟨k+1,h++[C],by omega,by go_num,by show(h++[C]).length=k+1;simp[M.out],?_,?_,A.then B4.out⟩,by simp[intOf];omega⟩
   ·show World.ownsRow _ _ _ _ _ _ _
    rw[zD];exact O4
   ·exact K.low B4 F
  ·have O5:=ae (O2.trans P)
   obtain⟨g,cap,rfl⟩:=gv S (by omega);have bt:=BU h wr g cap k M.out (fun j hj=>S.cells (g:=g) rfl j _ (by simp[qv,hj]));have s:(⟨h.toArray⟩:ByteArray).size<=8:=by show h.toArray.size<=8;have:=M.out;simp;omega
   have X:=ae s;generalize (⟨h.toArray⟩:ByteArray)=Q2 at bt X;clear s;go_wp2;go_ret;exact⟨Q2,rfl,X,p+2+k,by omega,RR,O5⟩
def CI (w:H)(b:Nat)(x y z:QS):Prop:=w.heap[b]?=N (Q #[x,y,z] 146 (0,0))
theorem CI.new (w:H)(x y z:QS):CI (w.alloc (Q #[x,y,z] 146)) w.heap.size x y z:=cM w _
theorem Er:(Tryz.prog.info? 146).map (·.size)=N 3:=by kernel_rfl
abbrev I3:=Int × List UInt8 × Int
def i3V (i:I3):List QS:=[I J i.1,U ⟨i.2.1.toArray⟩,I J i.2.2]
def i3L (L:List I3):List QS:=L.flatMap i3V
theorem jr:∀ L:List I3,(i3L L).length=L.length*3
 | []=>rfl
 | i :: L=>by have:=jr L;simp only[i3L,JU,a8,z8] at this ⊢;rw[this];simp[i3V];omega
theorem BV {w:H}{b c n R j:Nat}{e:TypeId}{v:QS}{i:List QS}(h:w.ownsRow b e c v n i)(hR:R<b)(u:QS):(w.setCell (T R j Z) u).ownsRow b e c v n i:=by
 refine⟨h.1,?_⟩;rcases h.2 with hn | ⟨g,cap,f,l,m,o,r⟩
 ·exact .inl hn
 ·refine .inr ⟨g,cap,f,l,m,?_,r⟩
  have:R≠g:=by omega
  simp[World.setCell,JR,this,o]
def PB (w:H)(b:Nat)(v:QS):Prop:=w.heap[b]?=N (Q #[v] 43 (0,0))
theorem PB.lt {w:H}{b:Nat}{v:QS}(h:PB w b v):b<w.heap.size:=(nX.1 h).1
theorem PB.c0 {w:H}{b:Nat}{v:QS}(h:PB w b v):w.cell? (T b 0 Z)=N v:=by rw[Lib.cell_of_heap h];rfl
theorem PB.fz {w:H}{b:Nat}{v:QS}(h:PB w b v)(j:Nat):w.frozen? (T b j Z)=false:=QL h j
theorem PB.below {w c:H}{b B:Nat}{v:QS}(h:PB w b v)(hb:Below B w c)(f:b<B):PB c b v:=(hb.block b f).trans h
theorem PB.set {w:H}{b:Nat}{v:QS}(h:PB w b v)(c:QS):PB (w.setCell (T b 0 Z) c) b c:=by unfold PB at *;simp[World.setCell,JR,h]
theorem uX:(Tryz.prog.info? 43).map (·.size)=N 1:=by kernel_rfl
theorem oH {fn:Func}{p:Tmp}(h:fn.results=#[.cell p 146])(tmps:Array QS)(w:H)(g:Nat)(x y z:QS)(c:tmps.getD p undef=.pointer (N (T g 0 Z)))(b:CI w g x y z):(results fn tmps).run Tryz.prog w=.ok (QV #[x,y,z]) w :=
 results_cell_row h tmps w g 146 #[x,y,z] (0,0) _ c b Tryz.underlying146 rfl Er
theorem bE (s:ByteArray)(w:H):Calls Tryz.prog 84 #[U s] w fun e b=>e=QU (QV #[I J 1,U s,I J 0])/\Below w.heap.size w b:=by
 go_enter Tryz.func84,Tryz.ntmps84;go_wp2;try simp only[Exit.inBlock,Exit.then]
 refine bp (oH rfl _ _ w.heap.size _ _ _ rfl (CI.new w _ _ _)) rfl ?_;exact⟨rfl,br.alloc ly _⟩
theorem bs (op:Int)(w:H):Calls Tryz.prog 85 #[I J op] w fun e b=>e=QU (QV #[I J op,U ⟨#[]⟩,I J 0])/\Below w.heap.size w b:=by
 go_enter Tryz.func85,Tryz.ntmps85;go_wp2;try simp only[Exit.inBlock,Exit.then]
 refine bp (oH rfl _ _ w.heap.size _ _ _ rfl (CI.new w _ _ _)) rfl ?_;exact⟨rfl,br.alloc ly _⟩
theorem bO (op n:Int)(w:H):Calls Tryz.prog 130 #[I J op,I J n] w fun e b=>e=QU (QV #[I J op,U ⟨#[]⟩,I J n])/\Below w.heap.size w b:=by
 go_enter Tryz.func130,Tryz.ntmps130;go_wp2;try simp only[Exit.inBlock,Exit.then]
 refine bp (oH rfl _ _ w.heap.size _ _ _ rfl (CI.new w _ _ _)) rfl ?_;exact⟨rfl,br.alloc ly _⟩
theorem nT (n:Int)(w:H):Calls Tryz.prog 163 #[I J n] w fun e b=>e=QU (I J (if 200<n then 200 else n))/\b=w:=by
 by_cases h:200<n
 ·rw[gA h]
  go_enter Tryz.func163,Tryz.ntmps163;go_wp2;go_ret;exact⟨rfl,rfl⟩
 ·rw[eI h]
  go_enter Tryz.func163,Tryz.ntmps163;go_wp2;go_ret;exact⟨rfl,rfl⟩
theorem dN (R p:Nat)(w:H)(hR:Rd w R p)(hp:(p:Int)<=90000):Calls Tryz.prog 60 #[.pointer (N (T R 0 Z))] w fun e i=>∃ t:ByteArray,e=QU (U t)/\t.size<=30/\Rd i R (p+1)/\Only R w i:=by
 have o:=ae hR;clear hR;go_enter Tryz.func60,Tryz.ntmps60;go_wp2_with fail;refine(aw R p 16 _ o (by omega) (by omega) (by omega)).mono ?_;rintro e w1 ⟨z,rfl,hz0,hz1,c,f⟩;have g:=ae c;have h:=ae f;clear c f;by_cases h6:z<6
 ·rcases(show z=0∨z=1∨z=2∨z=3∨z=4∨z=5 by omega) with rfl | rfl | rfl | rfl | rfl | rfl
  all_goals
   go_wp2;go_ret;exact⟨_,rfl,by decide,g,h⟩
 ·by_cases h14:z<14
  ·obtain⟨m,rfl⟩:∃ m:Nat,z=(m:Int)+6:=⟨(z - 6).toNat,by omega⟩
   have hm:m<=7:=by omega
   have j:=ae (fun V=>qZ m (by omega) V);have hd:=Em m (by omega);go_wp2_with fail;refine(j _).mono ?_;rintro e w2 ⟨rfl,b⟩;have l:=ae (g.below b ly);have n:=ae (h.trans (Only.of_below b));clear b;go_wp2;go_ret;exact⟨_,rfl,by rw[KZ];show 1+(Lib.decDigits m).length<=30;omega,l,n⟩
  ·go_wp2
   go_ret;exact⟨_,rfl,by decide,g,h⟩
theorem tw:∃ i,Tryz.prog.info? 146=N i/\i.zero=N (QV #[I J 0,U ⟨#[]⟩,I J 0])/\i.size=3/\i.bytes=32:=by obtain⟨i,hi,hz⟩:=MG.1 qj;simp only[IT] at hz;exact⟨i,hi,hz⟩
def IR (w:H)(b g c:Nat)(L:List I3):Prop:=w.ownsRow b 146 3 (Y (N (T g 0 Z)) L.length c) L.length (i3L L)
theorem IR.below {w f:H}{b g c B:Nat}{L:List I3}(h:IR w b g c L)(hb:Below B w f)(i:w.heap.size<=B):IR f b g c L:=own_below h hb i
theorem IR.lt {w:H}{b g c:Nat}{L:List I3}(h:IR w b g c L):b<=g/\g<w.heap.size:=World.ownsRow.lt h g rfl
theorem IR.only {w f:H}{b g c R:Nat}{L:List I3}(h:IR w b g c L)(i:Only R w f)(hR:R<b):IR f b g c L:=gw h i hR
theorem IR.lit (w:H):IR (w.alloc (Q #[] 146)) w.heap.size w.heap.size 0 [] :=
 ⟨by simp[i3L],.inr ⟨w.heap.size,0,#[],rfl,j5 _,cM w _,j5 _,by unfold maxLen;omega,by simp,by simp[i3L]⟩⟩
theorem vX (L M:List I3):i3L (L++M)=i3L L++i3L M:=by simp[i3L]
theorem Es (L:List I3):∀ u∈i3L L,u.oneCell'=true:=by intro u b;simp only[i3L,LN,i3V] at b;obtain⟨x,_,c⟩:=b;simp at c;rcases c with rfl | rfl | rfl<;>simp[Value.oneCell']
theorem gF (b off j:Nat):((T b off Z):Addr).add j=(T b (off+j) Z):=by unfold Addr.add;split<;>simp_all
theorem fF (w:H)(b:Array QS)(t:TypeId):∀ j u,b.toList[j]?=N u->(w.alloc (Q b t)).cell? (((T w.heap.size 0 Z):Addr).add j)=N u:=by intro j u c;rw[gF,DN];exact mH w b t w.heap.size j u rfl (by simpa using c)
theorem IR.news {w:H}{b g c:Nat}{L:List I3}(h:IR w b g c L):∀ j u,(i3L L)[j]?=N u->w.cell? (((T g 0 Z):Addr).add j)=N u:=fun j u f=>World.ownsRow.cells h (g:=g) rfl j u f
theorem ip {q:Array Oper}{rest:List Oper}{o:Oper}{a:Act}{Q0:Exit->Act->H->Prop}{w:H}(A:o.guard=Z)(s x:Operand)
  (Q9:o.op=.call { callee:=.builtin .append,args:=#[s,x],argTypes:=#[41,41] }) (b g c:Nat) (L:List I3) (E:a.eval s=Y (N (T g 0 Z)) L.length c) (r:IR w b g c L)
  (y:Addr) (m d:Nat) (M:List I3) (F:a.eval x=Y (N y) m d) (K:m=M.length) (z:M≠[]) (n:∀ j u,(i3L M)[j]?=N u->w.cell? (y.add j)=N u) (hlen:L.length+M.length<=100000) (hb:b<=w.heap.size)
  (h:∀ f i l,IR l b f i (L++M)->w.grownBy l (N g)->wpList Tryz.prog q Q0 rest (a.put o.dst (Y (N (T f 0 Z)) (L++M).length i)) l):wpList Tryz.prog q Q0 (o :: rest) a w:=by
 obtain⟨G,hi,C,D,B⟩:=tw;subst K;refine wC _ A s x 41 Q9 b 146 G (QV #[I J 0,U ⟨#[]⟩,I J 0]) 3 32 Tryz.underlying41 hi C D B rfl (by decide) _ L.length (i3L L) E r y M.length d (i3L M) F (jr M) n (Es M) (by unfold maxLen;omega) (by omega) hb ?_;intro ZB l p ZA _;have hp:0<M.length:=JS.2 z;have t:∃ f i,ZB=Y (N (T f 0 Z)) (L.length+M.length) i:=by
  rcases p.2 with ⟨_,h0⟩ | ⟨f,cap,cur,t,_⟩
  ·omega
  ·exact⟨f,cap,t⟩
 obtain⟨f,i,rfl⟩:=t;have e:(L++M).length=L.length+M.length:=a8;rw[<-e] at p ⊢;rw[<-vX] at p;exact h f i l p ZA
def DI (w:H)(R q n:Nat)(e:Ending)(b:H):Prop:=∃ (L:List I3) (g c:Nat),e=QU (Y (N (T g 0 Z)) L.length c)/\IR b w.heap.size g c L/\L≠[]/\L.length<=n/\(∀ i∈L,i.2.1.length<=5000)/\∃ f:Nat,f<=q/\Rd b R f/\Only R w b
theorem tz:∀ (L:List I3) (i:Nat) (n:Int) (x:I3),L[i]?=N x->i3L (L.set i (x.1,x.2.1,n))=(i3L L).set (i*3+2) (I J n)
 | [],i,n,x,h=>by simp at h
 | y :: L,0,n,x,h=>by simp at h;subst h;rfl
 | y :: L,i+1,n,x,h=>by simp at h;have c:=tz L i n x h;have b:(i3V y).length=3:=rfl;rw[N9];show i3V y++i3L (L.set i (x.1,x.2.1,n))=(i3V y++i3L L).set ((i+1)*3+2) (I J n);rw[c,NI _ _ (by rw[b];omega),b,show(i+1)*3+2 - 3=i*3+2 by omega]
theorem IR.setN {w:H}{b g c:Nat}{L:List I3}(h:IR w b g c L){i:Nat}(hi:i<L.length)(n:Int):∃ j,j.length=L.length/\((∀ x∈L,x.2.1.length<=5000)->∀ x∈j,x.2.1.length<=5000)/\IR (w.setCell (T g (i*3+2) Z) (I J n)) b g c j:=by
 have o:L[i]?=N L[i]:=gq hi;refine⟨L.set i (L[i].1,L[i].2.1,n),JO,fun l x p=>?_,?_⟩
 ·rcases J7 p with h1 | h1
  ·exact l x h1
  ·rw[h1]
   exact l L[i] (gj hi)
 ·unfold IR
  rw[JO,tz L i n L[i] o];refine⟨by rw[JO];exact h.1,?_⟩;rcases h.2 with ⟨f,h0⟩ | ⟨g',cap,m,f,hb,r,h1,h2,q,s⟩
  ·simp at f
  ·simp only[I5,JL,NG] at f
   obtain⟨⟨rfl,-⟩,-,rfl⟩:=f;refine .inr ⟨g,c,m.setIfInBounds (i*3+2) (I J n),rfl,hb,?_,h1,h2,by simpa using q,?_⟩
   ·simp[World.setCell,JR,r]
   ·rw[MJ,QO,s]
theorem IR.cellN {w:H}{f g c:Nat}{L:List I3}(h:IR w f g c L){i:Nat}(hi:i<L.length):(∃ v,w.cell? (T g (i*3+2) Z)=N (I J v))/\w.frozen? (T g (i*3+2) Z)=false:=by
 have n:L[i]?=N L[i]:=gq hi;have m:∀ (L:List I3) (i:Nat) (x:I3),L[i]?=N x->(i3L L)[i*3+2]?=N (I J x.2.2):=by
  intro L;induction L with
  | nil=>intro i x h;simp at h
  | cons y L p =>
   intro i x h;cases i with
   | zero=>simp at h;subst h;rfl
   | succ i =>simp at h;have l:(i3V y).length=3:=rfl;show(i3V y++i3L L)[(i+1)*3+2]?=_;rw[p8 (by rw[l];omega),l,show(i+1)*3+2 - 3=i*3+2 by omega];exact p i x h
 have j:=World.ownsRow.cells h (g:=g) rfl _ _ (m L i L[i] n);rw[gF,DN] at j;refine⟨⟨_,j⟩,?_⟩;rcases h.2 with ⟨b,_⟩ | ⟨g',cap,cur,b,_,o,_⟩
 ·simp at b
 ·simp only[I5,JL,NG] at b
  obtain⟨⟨rfl,-⟩,-,rfl⟩:=b;exact QL o _
end Go.Proofs.YtamacmnikdejeaaGreatDoor.Vp
