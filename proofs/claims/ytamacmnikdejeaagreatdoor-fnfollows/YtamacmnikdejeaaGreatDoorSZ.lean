import Derived.Test.YtamacmnikdejeaaGreatDoorSM
import Derived.Lib.Builder
import Derived.Laws.ResultCell
import Derived.Laws.Rows
import Derived.Lib.IndexMore
import Derived.Lib.AtoiAll
import Derived.Test.YtamacmnikdejeaaGreatDoorSO
set_option maxRecDepth 100000
set_option maxHeartbeats 4000000
set_option linter.unusedSimpArgs false
open Go.Addr renaming mk->N
open Go.Value renaming slice->Y,string->U,int->J,agg->QG
open Option renaming none->Z,some->T
open Go.Obj renaming cells->Q
open Go.IntKind renaming i64->I
open Go renaming World->G,Value->QE
open Go.Ending renaming returned->QF
namespace Go.Proofs.YtamacmnikdejeaaGreatDoor.Vp
open RowKit
def pM (b:List UInt8):List QE:=b.map fun c=>J .u8 (c.toNat:Int)
theorem DW:(Tryz.prog.info? 5).map (fun i=>(i.zero,i.size,i.bytes))=T (T (J .u8 0),1,1):=by kernel_rfl
theorem fL {w l:G}{b R:Nat}{e:TypeId}{size n:Nat}{v:QE}{i:List QE}(h:w.ownsRow b e size v n i)(f:Only R w l)(hR:R<b):l.ownsRow b e size v n i:=by
 refine h.kept (row:=T R) ⟨f.os,f.tape,f.output,f.size,fun k m j=>f.block k m (by simpa using j)⟩ ?_;rcases h.2 with ⟨rfl,_⟩ | ⟨g,cap,cur,rfl,hg,_⟩
 ·exact .inl rfl
 ·right
  simp[Value.ownBlock];omega
theorem wH {z:Int}(b:0<=z)(h1:z<159):∃ c:UInt8,97+z=(c.toNat:Int):=by obtain⟨k,rfl⟩:=nX b;refine⟨UInt8.ofNat (97+k),?_⟩;rw[UInt8.toNat_ofNat'];omega
theorem xZ (b:List UInt8)(c:UInt8):pM (b++[c])=pM b++[J .u8 (c.toNat:Int)]:=by simp[pM]
theorem zI (b:List UInt8)(w:G)(g cap k:Nat)(h:b.length=k)(i:∀ j (f:j<b.length),w.cell? (((N g 0 Z):Addr).add j)=T (J .u8 (b[j].toNat:Int))):(convert 22 9 (Y (T (N g 0 Z)) k cap)).run Tryz.prog w=.ok (U ⟨b.toArray⟩) w:=by subst h;refine MC _ 22 9 5 (N g 0 Z) cap b Tryz.underlying22 Tryz.underlying5 Tryz.underlying9 ?_;intro j f;exact i j f
theorem fY (R p:Nat)(w:G)(hR:Rd w R p)(hp:(p:Int)<=50000):Calls Tryz.prog 64 #[.pointer (T (N R 0 Z))] w fun e w'=>∃ t:ByteArray,e=QF (U t)/\t.size<=8/\∃ q:Nat,q<=p+8/\Rd w' R q/\Only R w w':=by
 have HR:=ae hR;clear hR;go_enter Tryz.func64,Tryz.ntmps64;go_wp2_with fail;refine(av R p 12 _ HR (by omega) (by omega) (by omega)).mono ?_;rintro e n ⟨z,rfl,hz0,hz1,B,H⟩;have A:=ae B;have L:=ae H;clear B H;by_cases h3:z=3
 ·subst h3
  have P:=ae ((q9 n).alloc ly (Q #[U ⟨#[97,32,98]⟩,U ⟨#[97,9,98,32,99]⟩] 9));have QO:=ae (A.below P ly);have k0:(n.alloc (Q #[U ⟨#[97,32,98]⟩,U ⟨#[97,9,98,32,99]⟩] 9)).cell? (N n.heap.size 0 Z)=T (U ⟨#[97,32,98]⟩):=by simp
  have k1:(n.alloc (Q #[U ⟨#[97,32,98]⟩,U ⟨#[97,9,98,32,99]⟩] 9)).cell? (N n.heap.size 1 Z)=T (U ⟨#[97,9,98,32,99]⟩):=by simp
  go_wp2_with fail;refine(av R (p+1) 2 _ QO (by omega) (by omega) (by omega)).mono ?_;rintro e f ⟨y,rfl,E,V,l,b⟩;have hl:=A.lt;have j0:=(b.cell n.heap.size 0 (by simp) (by omega)).trans k0;have j1:=(b.cell n.heap.size 1 (by simp) (by omega)).trans k1;have K:=ae l;have x:=ae ((L.trans (Only.of_below P)).trans b);clear l b k0 k1 P;rcases(show y=0∨y=1 by omega) with rfl | rfl;all_goals
   go_wp2;go_ret;exact⟨_,rfl,by decide,p+1+1,by omega,K,x⟩
 by_cases h6:z<6
 ·rcases(show z=0∨z=1∨z=2∨z=4∨z=5 by omega) with rfl | rfl | rfl | rfl | rfl
  all_goals
   go_wp2;go_ret;exact⟨_,rfl,by decide,p+1,by omega,A,L⟩
 have n0:¬ z=0:=by omega
 have n1:¬ z=1:=by omega
 have n2:¬ z=2:=by omega
 have n4:¬ z=4:=by omega
 have n5:¬ z=5:=by omega
 go_wp2_with fail;refine(av R (p+1) 5 _ A (by omega) (by omega) (by omega)).mono ?_;rintro e f ⟨y,rfl,E,V,l,b⟩;have QO:=ae l;have O2:=ae (L.trans b);have QR:=l.lt;clear l b;have A2:=ae ((q9 f).alloc ly (Q #[] 5));have W2:=ae (I7 f #[] 0 (e:=5) (size:=1) (j6 f.heap.size) (by unfold maxLen;omega) rfl);obtain⟨m,rfl⟩:=nX E;obtain⟨aq,hi,W,QJ,ex⟩:=IL DW;go_wp2;go_loopw [4,5] (fun v i wr=>∃ (k:Nat) (h:List UInt8),k<=m+1/\i=J I k/\Hid (h.length=k)/\Hid (wr.ownsRow f.heap.size 5 1 v k (pM h))/\Hid (Rd wr R (p+2+k))/\Hid (Only R f wr)) (fun _ i _=>m+1 - (intOf i).toNat);case atStart=>exact⟨0,[],by omega,rfl,rfl,W2,QO.below A2 ly,Only.of_below A2⟩
 case round =>
  obtain⟨k,h,hk,rfl,QM,QN,X,QK⟩:=hrel;have hsz:f.heap.size<=wr.heap.size:=QK.size;by_cases hlt:(k:Int)<=m
  ·go_wp2_with fail
   refine(av R (p+2+k) 4 _ X (by omega) (by omega) (by omega)).mono ?_;rintro e S ⟨c,rfl,QH,hc1,QP,u⟩;obtain⟨C,hC⟩:=wH QH (by omega);have K:=ae QP;have x:=ae (QK.trans u);have D:=ae (fL QN u QR);have M:f.heap.size<=S.heap.size:=x.size;clear QP u;go_wp2_with (at_builtin;refine CW _ rfl (.tmp 33) (.tmp 38) 22 rfl f.heap.size 5 aq (J .u8 0) 1 1 Tryz.underlying22 hi W QJ ex rfl (by decide) _ k (pM h) (by simp[Act.eval]) (D.alloc _) (N S.heap.size 0 Z) 1 1 [J .u8 (C.toNat:Int)] (by simp[Act.eval]) rfl (eZ _ _ _) (by simp[Value.oneCell']) (by unfold maxLen;omega) (by omega) (by simp;omega) ?_;intro v' w4 r o O;have O4:=ae r;have B4:=ae (bg ((a8 f.heap.size S).alloc M (Q #[J .u8 (C.toNat:Int)] 5)) o (by simp;omega) (fun j e=>(D.lt j e).1));clear r o O);refine⟨⟨k+1,h++[C],by omega,by go_num,by show(h++[C]).length=k+1;simp[QM.out],?_,?_,x.then B4.out⟩,by simp[intOf];omega⟩
   ·show World.ownsRow _ _ _ _ _ _ _
    rw[xZ];exact O4
   ·exact K.low B4 QR
  ·have O5:=ae (O2.trans QK)
   obtain⟨g,cap,rfl⟩:=iX QN (by omega);have bt:=zI h wr g cap k QM.out (fun j hj=>QN.cells (g:=g) rfl j _ (by simp[pM,hj]));have s:(⟨h.toArray⟩:ByteArray).size<=8:=by show h.toArray.size<=8;have:=QM.out;simp;omega
   have HZ:=ae s;generalize (⟨h.toArray⟩:ByteArray)=QL at bt HZ;clear s;go_wp2;go_ret;exact⟨QL,rfl,HZ,p+2+k,by omega,X,O5⟩
def CI (w:G)(b:Nat)(x y z:QE):Prop:=w.heap[b]?=T (Q #[x,y,z] 146 (0,0))
theorem CI.new (w:G)(x y z:QE):CI (w.alloc (Q #[x,y,z] 146)) w.heap.size x y z:=eT w _
theorem Cn:(Tryz.prog.info? 146).map (·.size)=T 3:=by kernel_rfl
abbrev I3:=Int × List UInt8 × Int
def i3V (i:I3):List QE:=[J I i.1,U ⟨i.2.1.toArray⟩,J I i.2.2]
def i3L (L:List I3):List QE:=L.flatMap i3V
theorem iQ:∀ L:List I3,(i3L L).length=L.length*3
 | []=>rfl
 | i :: L=>by have:=iQ L;simp only[i3L,IY,eI,nD] at this ⊢;rw[this];simp[i3V];omega
theorem zJ {w:G}{b i n R j:Nat}{e:TypeId}{v:QE}{f:List QE}(h:w.ownsRow b e i v n f)(hR:R<b)(u:QE):(w.setCell (N R j Z) u).ownsRow b e i v n f:=by
 refine⟨h.1,?_⟩;rcases h.2 with hn | ⟨g,cap,l,o,p,m,r⟩
 ·exact .inl hn
 ·refine .inr ⟨g,cap,l,o,p,?_,r⟩
  have:R≠g:=by omega
  simp[World.setCell,IK,this,m]
def PB (w:G)(b:Nat)(v:QE):Prop:=w.heap[b]?=T (Q #[v] 43 (0,0))
theorem PB.lt {w:G}{b:Nat}{v:QE}(h:PB w b v):b<w.heap.size:=(BO.1 h).1
theorem PB.c0 {w:G}{b:Nat}{v:QE}(h:PB w b v):w.cell? (N b 0 Z)=T v:=by rw[Lib.cell_of_heap h];rfl
theorem PB.fz {w:G}{b:Nat}{v:QE}(h:PB w b v)(j:Nat):w.frozen? (N b j Z)=false:=NK h j
theorem PB.below {w f:G}{b B:Nat}{v:QE}(h:PB w b v)(hb:Below B w f)(g:b<B):PB f b v:=(hb.block b g).trans h
theorem PB.set {w:G}{b:Nat}{v:QE}(h:PB w b v)(f:QE):PB (w.setCell (N b 0 Z) f) b f:=by unfold PB at *;simp[World.setCell,IK,h]
theorem ui:(Tryz.prog.info? 43).map (·.size)=T 1:=by kernel_rfl
theorem nP {fn:Func}{p:Tmp}(h:fn.results=#[.cell p 146])(tmps:Array QE)(w:G)(g:Nat)(x y z:QE)(f:tmps.getD p undef=.pointer (T (N g 0 Z)))(b:CI w g x y z):(results fn tmps).run Tryz.prog w=.ok (QG #[x,y,z]) w :=
 results_cell_row h tmps w g 146 #[x,y,z] (0,0) _ f b Tryz.underlying146 rfl Cn
theorem bs (s:ByteArray)(w:G):Calls Tryz.prog 84 #[U s] w fun e b=>e=QF (QG #[J I 1,U s,J I 0])/\Below w.heap.size w b:=by
 go_enter Tryz.func84,Tryz.ntmps84;go_wp2;try simp only[Exit.inBlock,Exit.then]
 refine bp (nP rfl _ _ w.heap.size _ _ _ rfl (CI.new w _ _ _)) rfl ?_;exact⟨rfl,br.alloc ly _⟩
theorem bi (op:Int)(w:G):Calls Tryz.prog 85 #[J I op] w fun e b=>e=QF (QG #[J I op,U ⟨#[]⟩,J I 0])/\Below w.heap.size w b:=by
 go_enter Tryz.func85,Tryz.ntmps85;go_wp2;try simp only[Exit.inBlock,Exit.then]
 refine bp (nP rfl _ _ w.heap.size _ _ _ rfl (CI.new w _ _ _)) rfl ?_;exact⟨rfl,br.alloc ly _⟩
theorem bK (op n:Int)(w:G):Calls Tryz.prog 130 #[J I op,J I n] w fun e b=>e=QF (QG #[J I op,U ⟨#[]⟩,J I n])/\Below w.heap.size w b:=by
 go_enter Tryz.func130,Tryz.ntmps130;go_wp2;try simp only[Exit.inBlock,Exit.then]
 refine bp (nP rfl _ _ w.heap.size _ _ _ rfl (CI.new w _ _ _)) rfl ?_;exact⟨rfl,br.alloc ly _⟩
theorem mZ (n:Int)(w:G):Calls Tryz.prog 163 #[J I n] w fun e b=>e=QF (J I (if 200<n then 200 else n))/\b=w:=by
 by_cases h:200<n
 ·rw[gM h]
  go_enter Tryz.func163,Tryz.ntmps163;go_wp2;go_ret;exact⟨rfl,rfl⟩
 ·rw[cM h]
  go_enter Tryz.func163,Tryz.ntmps163;go_wp2;go_ret;exact⟨rfl,rfl⟩
theorem dN (R p:Nat)(w:G)(hR:Rd w R p)(hp:(p:Int)<=90000):Calls Tryz.prog 60 #[.pointer (T (N R 0 Z))] w fun e j=>∃ t:ByteArray,e=QF (U t)/\t.size<=30/\Rd j R (p+1)/\Only R w j:=by
 have l:=ae hR;clear hR;go_enter Tryz.func60,Tryz.ntmps60;go_wp2_with fail;refine(av R p 16 _ l (by omega) (by omega) (by omega)).mono ?_;rintro e w1 ⟨z,rfl,hz0,hz1,g,f⟩;have h:=ae g;have i:=ae f;clear g f;by_cases h6:z<6
 ·rcases(show z=0∨z=1∨z=2∨z=3∨z=4∨z=5 by omega) with rfl | rfl | rfl | rfl | rfl | rfl
  all_goals
   go_wp2;go_ret;exact⟨_,rfl,by decide,h,i⟩
 ·by_cases h14:z<14
  ·obtain⟨m,rfl⟩:∃ m:Nat,z=(m:Int)+6:=⟨(z - 6).toNat,by omega⟩
   have hm:m<=7:=by omega
   have n:=ae (fun V=>qA m (by omega) V);have hd:=Cj m (by omega);go_wp2_with fail;refine(n _).mono ?_;rintro e w2 ⟨rfl,b⟩;have o:=ae (h.below b ly);have q:=ae (i.trans (Only.of_below b));clear b;go_wp2;go_ret;exact⟨_,rfl,by rw[JC];show 1+(Lib.decDigits m).length<=30;omega,o,q⟩
  ·go_wp2
   go_ret;exact⟨_,rfl,by decide,h,i⟩
theorem nQ:∃ i,Tryz.prog.info? 146=T i/\i.zero=T (QG #[J I 0,U ⟨#[]⟩,J I 0])/\i.size=3/\i.bytes=32:=by obtain⟨i,hi,hz⟩:=J0.1 pE;simp only[IA] at hz;exact⟨i,hi,hz⟩
def IR (w:G)(b g c:Nat)(L:List I3):Prop:=w.ownsRow b 146 3 (Y (T (N g 0 Z)) L.length c) L.length (i3L L)
theorem IR.below {w f:G}{b g c B:Nat}{L:List I3}(h:IR w b g c L)(hb:Below B w f)(i:w.heap.size<=B):IR f b g c L:=own_below h hb i
theorem IR.lt {w:G}{b g c:Nat}{L:List I3}(h:IR w b g c L):b<=g/\g<w.heap.size:=World.ownsRow.lt h g rfl
theorem IR.only {w f:G}{b g c R:Nat}{L:List I3}(h:IR w b g c L)(i:Only R w f)(hR:R<b):IR f b g c L:=fL h i hR
theorem IR.lit (w:G):IR (w.alloc (Q #[] 146)) w.heap.size w.heap.size 0 [] :=
 ⟨by simp[i3L],.inr ⟨w.heap.size,0,#[],rfl,j6 _,eT w _,j6 _,by unfold maxLen;omega,by simp,by simp[i3L]⟩⟩
theorem pN (L M:List I3):i3L (L++M)=i3L L++i3L M:=by simp[i3L]
theorem uY (L:List I3):∀ u∈i3L L,u.oneCell'=true:=by intro u f;simp only[i3L,JV,i3V] at f;obtain⟨x,_,b⟩:=f;simp at b;rcases b with rfl | rfl | rfl<;>simp[Value.oneCell']
theorem gX (b off j:Nat):((N b off Z):Addr).add j=(N b (off+j) Z):=by unfold Addr.add;split<;>simp_all
theorem ee (w:G)(b:Array QE)(t:TypeId):∀ j u,b.toList[j]?=T u->(w.alloc (Q b t)).cell? (((N w.heap.size 0 Z):Addr).add j)=T u:=by intro j u f;rw[gX,D0];exact jK w b t w.heap.size j u rfl (by simpa using f)
theorem IR.news {w:G}{b g c:Nat}{L:List I3}(h:IR w b g c L):∀ j u,(i3L L)[j]?=T u->w.cell? (((N g 0 Z):Addr).add j)=T u:=fun j u f=>World.ownsRow.cells h (g:=g) rfl j u f
theorem fP {q:Array Oper}{rest:List Oper}{o:Oper}{a:Act}{QM:Exit->Act->G->Prop}{w:G}(z:o.guard=Z)(s x:Operand)
  (H:o.op=.call { callee:=.builtin .append,args:=#[s,x],argTypes:=#[41,41] }) (b g c:Nat) (L:List I3) (QR:a.eval s=Y (T (N g 0 Z)) L.length c) (y:IR w b g c L)
  (r:Addr) (m d:Nat) (M:List I3) (K:a.eval x=Y (T r) m d) (E:m=M.length) (B:M≠[]) (n:∀ j u,(i3L M)[j]?=T u->w.cell? (r.add j)=T u) (hlen:L.length+M.length<=100000) (hb:b<=w.heap.size)
  (h:∀ f i l,IR l b f i (L++M)->w.grownBy l (T g)->wpList Tryz.prog q QM rest (a.put o.dst (Y (T (N f 0 Z)) (L++M).length i)) l):wpList Tryz.prog q QM (o :: rest) a w:=by
 obtain⟨QP,hi,C,A,D⟩:=nQ;subst E;refine CW _ z s x 41 H b 146 QP (QG #[J I 0,U ⟨#[]⟩,J I 0]) 3 32 Tryz.underlying41 hi C A D rfl (by decide) _ L.length (i3L L) QR y r M.length d (i3L M) K (iQ M) n (uY M) (by unfold maxLen;omega) (by omega) hb ?_;intro QO l p QN _;have hp:0<M.length:=IP.2 B;have t:∃ f i,QO=Y (T (N f 0 Z)) (L.length+M.length) i:=by
  rcases p.2 with ⟨_,h0⟩ | ⟨f,cap,cur,t,_⟩
  ·omega
  ·exact⟨f,cap,t⟩
 obtain⟨f,i,rfl⟩:=t;have e:(L++M).length=L.length+M.length:=eI;rw[<-e] at p ⊢;rw[<-pN] at p;exact h f i l p QN
def DI (w:G)(R q n:Nat)(e:Ending)(b:G):Prop:=∃ (L:List I3) (g c:Nat),e=QF (Y (T (N g 0 Z)) L.length c)/\IR b w.heap.size g c L/\L≠[]/\L.length<=n/\(∀ i∈L,i.2.1.length<=5000)/\∃ f:Nat,f<=q/\Rd b R f/\Only R w b
theorem sA:∀ (L:List I3) (i:Nat) (n:Int) (x:I3),L[i]?=T x->i3L (L.set i (x.1,x.2.1,n))=(i3L L).set (i*3+2) (J I n)
 | [],i,n,x,h=>by simp at h
 | y :: L,0,n,x,h=>by simp at h;subst h;rfl
 | y :: L,i+1,n,x,h=>by simp at h;have f:=sA L i n x h;have b:(i3V y).length=3:=rfl;rw[LV];show i3V y++i3L (L.set i (x.1,x.2.1,n))=(i3V y++i3L L).set ((i+1)*3+2) (J I n);rw[f,LB _ _ (by rw[b];omega),b,show(i+1)*3+2 - 3=i*3+2 by omega]
theorem IR.setN {w:G}{b g c:Nat}{L:List I3}(h:IR w b g c L){i:Nat}(hi:i<L.length)(n:Int):∃ j,j.length=L.length/\((∀ x∈L,x.2.1.length<=5000)->∀ x∈j,x.2.1.length<=5000)/\IR (w.setCell (N g (i*3+2) Z) (J I n)) b g c j:=by
 have r:L[i]?=T L[i]:=gq hi;refine⟨L.set i (L[i].1,L[i].2.1,n),IC,fun m x o=>?_,?_⟩
 ·rcases IZ o with h1 | h1
  ·exact m x h1
  ·rw[h1]
   exact m L[i] (gj hi)
 ·unfold IR
  rw[IC,sA L i n L[i] r];refine⟨by rw[IC];exact h.1,?_⟩;rcases h.2 with ⟨f,h0⟩ | ⟨g',cap,l,f,hb,s,h1,h2,q,p⟩
  ·simp at f
  ·simp only[IB,IF,J4] at f
   obtain⟨⟨rfl,-⟩,-,rfl⟩:=f;refine .inr ⟨g,c,l.setIfInBounds (i*3+2) (J I n),rfl,hb,?_,h1,h2,by simpa using q,?_⟩
   ·simp[World.setCell,IK,s]
   ·rw[J7,NR,p]
theorem IR.cellN {w:G}{f g c:Nat}{L:List I3}(h:IR w f g c L){i:Nat}(hi:i<L.length):(∃ v,w.cell? (N g (i*3+2) Z)=T (J I v))/\w.frozen? (N g (i*3+2) Z)=false:=by
 have o:L[i]?=T L[i]:=gq hi;have m:∀ (L:List I3) (i:Nat) (x:I3),L[i]?=T x->(i3L L)[i*3+2]?=T (J I x.2.2):=by
  intro L;induction L with
  | nil=>intro i x h;simp at h
  | cons y L n =>
   intro i x h;cases i with
   | zero=>simp at h;subst h;rfl
   | succ i =>simp at h;have j:(i3V y).length=3:=rfl;show(i3V y++i3L L)[(i+1)*3+2]?=_;rw[BS (by rw[j];omega),j,show(i+1)*3+2 - 3=i*3+2 by omega];exact n i x h
 have l:=World.ownsRow.cells h (g:=g) rfl _ _ (m L i L[i] o);rw[gX,D0] at l;refine⟨⟨_,l⟩,?_⟩;rcases h.2 with ⟨b,_⟩ | ⟨g',cap,cur,b,_,p,_⟩
 ·simp at b
 ·simp only[IB,IF,J4] at b
  obtain⟨⟨rfl,-⟩,-,rfl⟩:=b;exact NK p _
end Go.Proofs.YtamacmnikdejeaaGreatDoor.Vp
