import Derived.Test.YtkdimgejdocbbaaGreatDoorZQ
import Derived.Test.YtkdimgejdocbbaaGreatDoorZM
import Derived.Lib.Builder
import Derived.Laws.ResultCell
import Derived.Laws.Rows
import Derived.Lib.IndexMore
import Derived.Lib.AtoiAll
set_option maxRecDepth 100000
set_option maxHeartbeats 2000000
open Go.Addr renaming mk->J
open Go.Value renaming slice->Z,string->U,int->Q,agg->QE
open Option renaming none->Y,some->N
open Go.Obj renaming cells->T
open Go.IntKind renaming i64->I
open Go renaming World->E,Value->QB
open Go.Ending renaming returned->QD
namespace Go.Proofs.YtkdimgejdocbbaaGreatDoor.Vp
open RowKit
def CI (w:E)(b:Nat)(x y z:QB):Prop:=w.heap[b]?=N (T #[x,y,z] 188 (0,0))
theorem CI.new (w:E)(x y z:QB):CI (w.alloc (T #[x,y,z] 188)) w.heap.size x y z:=eL w _
theorem Cw:(Tryz.prog.info? 188).map (·.size)=N 3:=by kernel_rfl
abbrev I3:=Int × List UInt8 × Int
def i3V (i:I3):List QB:=[Q I i.1,U ⟨i.2.1.toArray⟩,Q I i.2.2]
def i3L (L:List I3):List QB:=L.flatMap i3V
theorem iM:∀ L:List I3,(i3L L).length=L.length*3
 | []=>rfl
 | i :: L=>by have:=iM L;simp only[i3L,I9,cM,p7] at this ⊢;rw[this];simp[i3V];omega
theorem zO {w:E}{b f n R j:Nat}{e:TypeId}{v:QB}{d:List QB}(h:w.ownsRow b e f v n d)(hR:R<b)(u:QB):(w.setCell (J R j Y) u).ownsRow b e f v n d:=by
 refine⟨h.1,?_⟩;rcases h.2 with o | ⟨g,i,k,m,l,p,r⟩
 ·exact .inl o
 ·refine .inr ⟨g,i,k,m,l,?_,r⟩
  have:R≠g:=by omega
  simp[World.setCell,I6,this,p]
def PB (w:E)(b:Nat)(v:QB):Prop:=w.heap[b]?=N (T #[v] 31 (0,0))
theorem PB.lt {w:E}{b:Nat}{v:QB}(h:PB w b v):b<w.heap.size:=(x5.1 h).1
theorem PB.c0 {w:E}{b:Nat}{v:QB}(h:PB w b v):w.cell? (J b 0 Y)=N v:=by rw[Lib.cell_of_heap h];rfl
theorem PB.fz {w:E}{b:Nat}{v:QB}(h:PB w b v)(j:Nat):w.frozen? (J b j Y)=false:=NK h j
theorem PB.below {w d:E}{b B:Nat}{v:QB}(h:PB w b v)(hb:Below B w d)(f:b<B):PB d b v:=(hb.block b f).trans h
theorem PB.set {w:E}{b:Nat}{v:QB}(h:PB w b v)(d:QB):PB (w.setCell (J b 0 Y) d) b d:=by unfold PB at *;simp[World.setCell,I6,h]
theorem tP:(Tryz.prog.info? 31).map (·.size)=N 1:=by kernel_rfl
theorem ng {fn:Func}{p:Tmp}(h:fn.results=#[.cell p 188])(tmps:Array QB)(w:E)(g:Nat)(x y z:QB)(d:tmps.getD p undef=.pointer (N (J g 0 Y)))(b:CI w g x y z):(results fn tmps).run Tryz.prog w=.ok (QE #[x,y,z]) w :=
 results_cell_row h tmps w g 188 #[x,y,z] (0,0) _ d b Tryz.underlying188 rfl Cw
theorem bB (s:ByteArray)(w:E):Calls Tryz.prog 142 #[U s] w fun e b=>e=QD (QE #[Q I 1,U s,Q I 0])/\Below w.heap.size w b:=by
 go_enter Tryz.func142,Tryz.ntmps142;go_wp2;try simp only[Exit.inBlock,Exit.then]
 refine bp (ng rfl _ _ w.heap.size _ _ _ rfl (CI.new w _ _ _)) rfl ?_;exact⟨rfl,br.alloc lr _⟩
theorem bn (op:Int)(w:E):Calls Tryz.prog 143 #[Q I op] w fun e b=>e=QD (QE #[Q I op,U ⟨#[]⟩,Q I 0])/\Below w.heap.size w b:=by
 go_enter Tryz.func143,Tryz.ntmps143;go_wp2;try simp only[Exit.inBlock,Exit.then]
 refine bp (ng rfl _ _ w.heap.size _ _ _ rfl (CI.new w _ _ _)) rfl ?_;exact⟨rfl,br.alloc lr _⟩
theorem bK (op n:Int)(w:E):Calls Tryz.prog 205 #[Q I op,Q I n] w fun e b=>e=QD (QE #[Q I op,U ⟨#[]⟩,Q I n])/\Below w.heap.size w b:=by
 go_enter Tryz.func205,Tryz.ntmps205;go_wp2;try simp only[Exit.inBlock,Exit.then]
 refine bp (ng rfl _ _ w.heap.size _ _ _ rfl (CI.new w _ _ _)) rfl ?_;exact⟨rfl,br.alloc lr _⟩
theorem mJ (n:Int)(w:E):Calls Tryz.prog 237 #[Q I n] w fun e b=>e=QD (Q I (if 200<n then 200 else n))/\b=w:=by
 by_cases h:200<n
 ·rw[eT h]
  go_enter Tryz.func237,Tryz.ntmps237;go_wp2;go_ret;exact⟨rfl,rfl⟩
 ·rw[a8 h]
  go_enter Tryz.func237,Tryz.ntmps237;go_wp2;go_ret;exact⟨rfl,rfl⟩
theorem fx (R p:Nat)(w:E)(hR:Rd w R p)(hp:(p:Int)<=90000):Calls Tryz.prog 56 #[.pointer (N (J R 0 Y))] w fun e i=>∃ t:ByteArray,e=QD (U t)/\t.size<=30/\Rd i R (p+1)/\Only R w i:=by
 have l:=ae hR;clear hR;go_enter Tryz.func56,Tryz.ntmps56;go_wp2_with fail;refine(aD R p 16 _ l (by omega) (by omega) (by omega)).mono ?_;rintro e w1 ⟨z,rfl,hz0,hz1,f,d⟩;have g:=ae f;have h:=ae d;clear f d;by_cases h6:z<6
 ·rcases(show z=0∨z=1∨z=2∨z=3∨z=4∨z=5 by omega) with rfl | rfl | rfl | rfl | rfl | rfl
  all_goals
   go_wp2;go_ret;exact⟨_,rfl,by decide,g,h⟩
 ·by_cases h14:z<14
  ·obtain⟨m,rfl⟩:∃ m:Nat,z=(m:Int)+6:=⟨(z - 6).toNat,by omega⟩
   have hm:m<=7:=by omega
   have j:=ae (fun V=>pH m (by omega) V);have hd:=Cp m (by omega);go_wp2_with fail;refine(j _).mono ?_;rintro e w2 ⟨rfl,b⟩;have n:=ae (g.below b lr);have k:=ae (h.trans (Only.of_below b));clear b;go_wp2;go_ret;exact⟨_,rfl,by rw[JQ];show 1+(Lib.decDigits m).length<=30;omega,n,k⟩
  ·go_wp2
   go_ret;exact⟨_,rfl,by decide,g,h⟩
theorem zP:∃ i,Tryz.prog.info? 188=N i/\i.zero=N (QE #[Q I 0,U ⟨#[]⟩,Q I 0])/\i.size=3/\i.bytes=32:=by obtain⟨i,hi,hz⟩:=KJ.1 mx;simp only[C9] at hz;exact⟨i,hi,hz⟩
def IR (w:E)(b g c:Nat)(L:List I3):Prop:=w.ownsRow b 188 3 (Z (N (J g 0 Y)) L.length c) L.length (i3L L)
theorem IR.below {w d:E}{b g c B:Nat}{L:List I3}(h:IR w b g c L)(hb:Below B w d)(f:w.heap.size<=B):IR d b g c L:=own_below h hb f
theorem IR.lt {w:E}{b g c:Nat}{L:List I3}(h:IR w b g c L):b<=g/\g<w.heap.size:=World.ownsRow.lt h g rfl
theorem IR.only {w d:E}{b g c R:Nat}{L:List I3}(h:IR w b g c L)(f:Only R w d)(hR:R<b):IR d b g c L:=gy h f hR
theorem IR.lit (w:E):IR (w.alloc (T #[] 188)) w.heap.size w.heap.size 0 [] :=
 ⟨by simp[i3L],.inr ⟨w.heap.size,0,#[],rfl,j6 _,eL w _,j6 _,by unfold maxLen;omega,by simp,by simp[i3L]⟩⟩
theorem uH (L M:List I3):i3L (L++M)=i3L L++i3L M:=by simp[i3L]
theorem Cx (L:List I3):∀ u∈i3L L,u.oneCell'=true:=by intro u d;simp only[i3L,List.mem_flatMap,i3V] at d;obtain⟨x,_,b⟩:=d;simp at b;rcases b with rfl | rfl | rfl<;>simp[Value.oneCell']
theorem gZ (b off j:Nat):((J b off Y):Addr).add j=(J b (off+j) Y):=by unfold Addr.add;split<;>simp_all
theorem fQ (w:E)(b:Array QB)(t:TypeId):∀ j u,b.toList[j]?=N u->(w.alloc (T b t)).cell? (((J w.heap.size 0 Y):Addr).add j)=N u:=by intro j u d;rw[gZ,DC];exact jA w b t w.heap.size j u rfl (by simpa using d)
theorem IR.news {w:E}{b g c:Nat}{L:List I3}(h:IR w b g c L):∀ j u,(i3L L)[j]?=N u->w.cell? (((J g 0 Y):Addr).add j)=N u:=fun j u d=>World.ownsRow.cells h (g:=g) rfl j u d
theorem gA {p:Array Oper}{rest:List Oper}{o:Oper}{a:Act}{QM:Exit->Act->E->Prop}{w:E}(C:o.guard=Y)(s x:Operand)
  (H:o.op=.call { callee:=.builtin .append,args:=#[s,x],argTypes:=#[29,29] }) (b g c:Nat) (L:List I3) (QP:a.eval s=Z (N (J g 0 Y)) L.length c) (q:IR w b g c L)
  (r:Addr) (m d:Nat) (M:List I3) (K:a.eval x=Z (N r) m d) (QO:m=M.length) (y:M≠[]) (l:∀ j u,(i3L M)[j]?=N u->w.cell? (r.add j)=N u) (hlen:L.length+M.length<=100000) (hb:b<=w.heap.size)
  (h:∀ f i k,IR k b f i (L++M)->w.grownBy k (N g)->wpList Tryz.prog p QM rest (a.put o.dst (Z (N (J f 0 Y)) (L++M).length i)) k):wpList Tryz.prog p QM (o :: rest) a w:=by
 obtain⟨G,hi,z,B,QQ⟩:=zP;subst QO;refine CD _ C s x 29 H b 188 G (QE #[Q I 0,U ⟨#[]⟩,Q I 0]) 3 32 Tryz.underlying29 hi z B QQ rfl (by decide) _ L.length (i3L L) QP q r M.length d (i3L M) K (iM M) l (Cx M) (by unfold maxLen;omega) (by omega) hb ?_;intro QN k n QL _;have hp:0<M.length:=IH.2 y;have t:∃ f i,QN=Z (N (J f 0 Y)) (L.length+M.length) i:=by
  rcases n.2 with ⟨_,h0⟩ | ⟨f,A,cur,t,_⟩
  ·omega
  ·exact⟨f,A,t⟩
 obtain⟨f,i,rfl⟩:=t;have e:(L++M).length=L.length+M.length:=cM;rw[<-e] at n ⊢;rw[<-uH] at n;exact h f i k n QL
def DI (w:E)(R q n:Nat)(e:Ending)(b:E):Prop:=∃ (L:List I3) (g c:Nat),e=QD (Z (N (J g 0 Y)) L.length c)/\IR b w.heap.size g c L/\L≠[]/\L.length<=n/\(∀ i∈L,i.2.1.length<=5000)/\∃ d:Nat,d<=q/\Rd b R d/\Only R w b
theorem rQ:∀ (L:List I3) (i:Nat) (n:Int) (x:I3),L[i]?=N x->i3L (L.set i (x.1,x.2.1,n))=(i3L L).set (i*3+2) (Q I n)
 | [],i,n,x,h=>by simp at h
 | y :: L,0,n,x,h=>by simp at h;subst h;rfl
 | y :: L,i+1,n,x,h=>by simp at h;have d:=rQ L i n x h;have b:(i3V y).length=3:=rfl;rw[List.set_cons_succ];show i3V y++i3L (L.set i (x.1,x.2.1,n))=(i3V y++i3L L).set ((i+1)*3+2) (Q I n);rw[d,MJ _ _ (by rw[b];omega),b,show(i+1)*3+2 - 3=i*3+2 by omega]
theorem IR.setN {w:E}{b g c:Nat}{L:List I3}(h:IR w b g c L){i:Nat}(hi:i<L.length)(n:Int):∃ f,f.length=L.length/\((∀ x∈L,x.2.1.length<=5000)->∀ x∈f,x.2.1.length<=5000)/\IR (w.setCell (J g (i*3+2) Y) (Q I n)) b g c f:=by
 have q:L[i]?=N L[i]:=gq hi;refine⟨L.set i (L[i].1,L[i].2.1,n),IT,fun j x p=>?_,?_⟩
 ·rcases JH p with h1 | h1
  ·exact j x h1
  ·rw[h1]
   exact j L[i] (gz hi)
 ·unfold IR
  rw[IT,rQ L i n L[i] q];refine⟨by rw[IT];exact h.1,?_⟩;rcases h.2 with ⟨d,h0⟩ | ⟨g',cap,k,d,hb,m,h1,h2,o,l⟩
  ·simp at d
  ·simp only[CL,E2,KN] at d
   obtain⟨⟨rfl,-⟩,-,rfl⟩:=d;refine .inr ⟨g,c,k.setIfInBounds (i*3+2) (Q I n),rfl,hb,?_,h1,h2,by simpa using o,?_⟩
   ·simp[World.setCell,I6,m]
   ·rw[JN,NO,l]
theorem IR.cellN {w:E}{d g c:Nat}{L:List I3}(h:IR w d g c L){i:Nat}(hi:i<L.length):(∃ v,w.cell? (J g (i*3+2) Y)=N (Q I v))/\w.frozen? (J g (i*3+2) Y)=false:=by
 have m:L[i]?=N L[i]:=gq hi;have k:∀ (L:List I3) (i:Nat) (x:I3),L[i]?=N x->(i3L L)[i*3+2]?=N (Q I x.2.2):=by
  intro L;induction L with
  | nil=>intro i x h;simp at h
  | cons y L l =>
   intro i x h;cases i with
   | zero=>simp at h;subst h;rfl
   | succ i =>simp at h;have f:(i3V y).length=3:=rfl;show(i3V y++i3L L)[(i+1)*3+2]?=_;rw[AT (by rw[f];omega),f,show(i+1)*3+2 - 3=i*3+2 by omega];exact l i x h
 have j:=World.ownsRow.cells h (g:=g) rfl _ _ (k L i L[i] m);rw[gZ,DC] at j;refine⟨⟨_,j⟩,?_⟩;rcases h.2 with ⟨b,_⟩ | ⟨g',cap,cur,b,_,n,_⟩
 ·simp at b
 ·simp only[CL,E2,KN] at b
  obtain⟨⟨rfl,-⟩,-,rfl⟩:=b;exact NK n _
end Go.Proofs.YtkdimgejdocbbaaGreatDoor.Vp
