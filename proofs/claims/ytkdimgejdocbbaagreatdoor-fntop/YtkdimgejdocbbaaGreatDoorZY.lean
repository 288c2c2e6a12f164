import Derived.Test.YtkdimgejdocbbaaGreatDoorZQ
import Derived.Test.YtkdimgejdocbbaaGreatDoorZM
import Derived.Lib.Builder
import Derived.Laws.ResultCell
import Derived.Laws.Rows
import Derived.Lib.IndexMore
import Derived.Lib.AtoiAll
set_option maxRecDepth 100000
set_option maxHeartbeats 2000000
open Go.Addr renaming mk->J
open Go.Value renaming slice->Y,string->U,int->N,agg->QE
open Option renaming none->Z,some->Q
open Go.Obj renaming cells->T
open Go.IntKind renaming i64->I
open Go renaming World->E,Value->QB
open Go.Ending renaming returned->QD
namespace Go.Proofs.YtkdimgejdocbbaaGreatDoor.Vp
open RowKit
def CI (w:E)(b:Nat)(x y z:QB):Prop:=w.heap[b]?=Q (T #[x,y,z] 188 (0,0))
theorem CI.new (w:E)(x y z:QB):CI (w.alloc (T #[x,y,z] 188)) w.heap.size x y z:=eL w _
theorem Cw:(Tryz.prog.info? 188).map (·.size)=Q 3:=by kernel_rfl
abbrev I3:=Int × List UInt8 × Int
def i3V (i:I3):List QB:=[N I i.1,U ⟨i.2.1.toArray⟩,N I i.2.2]
def i3L (L:List I3):List QB:=L.flatMap i3V
theorem iM:∀ L:List I3,(i3L L).length=L.length*3
 | []=>rfl
 | i :: L=>by have:=iM L;simp only[i3L,I8,cM,o3] at this ⊢;rw[this];simp[i3V];omega
theorem zO {w:E}{b k n R j:Nat}{e:TypeId}{v:QB}{d:List QB}(h:w.ownsRow b e k v n d)(hR:R<b)(u:QB):(w.setCell (J R j Z) u).ownsRow b e k v n d:=by
 refine⟨h.1,?_⟩;rcases h.2 with m | ⟨g,f,i,p,l,o,r⟩
 ·exact .inl m
 ·refine .inr ⟨g,f,i,p,l,?_,r⟩
  have:R≠g:=by omega
  simp[World.setCell,I5,this,o]
def PB (w:E)(b:Nat)(v:QB):Prop:=w.heap[b]?=Q (T #[v] 31 (0,0))
theorem PB.lt {w:E}{b:Nat}{v:QB}(h:PB w b v):b<w.heap.size:=(x4.1 h).1
theorem PB.c0 {w:E}{b:Nat}{v:QB}(h:PB w b v):w.cell? (J b 0 Z)=Q v:=by rw[Lib.cell_of_heap h];rfl
theorem PB.fz {w:E}{b:Nat}{v:QB}(h:PB w b v)(j:Nat):w.frozen? (J b j Z)=false:=NH h j
theorem PB.below {w d:E}{b B:Nat}{v:QB}(h:PB w b v)(hb:Below B w d)(f:b<B):PB d b v:=(hb.block b f).trans h
theorem PB.set {w:E}{b:Nat}{v:QB}(h:PB w b v)(d:QB):PB (w.setCell (J b 0 Z) d) b d:=by unfold PB at *;simp[World.setCell,I5,h]
theorem tP:(Tryz.prog.info? 31).map (·.size)=Q 1:=by kernel_rfl
theorem ng {fn:Func}{p:Tmp}(h:fn.results=#[.cell p 188])(tmps:Array QB)(w:E)(g:Nat)(x y z:QB)(d:tmps.getD p undef=.pointer (Q (J g 0 Z)))(b:CI w g x y z):(results fn tmps).run Tryz.prog w=.ok (QE #[x,y,z]) w :=
 results_cell_row h tmps w g 188 #[x,y,z] (0,0) _ d b Tryz.underlying188 rfl Cw
theorem bB (s:ByteArray)(w:E):Calls Tryz.prog 142 #[U s] w fun e b=>e=QD (QE #[N I 1,U s,N I 0])/\Below w.heap.size w b:=by
 go_enter Tryz.func142,Tryz.ntmps142;go_wp2;try simp only[Exit.inBlock,Exit.then]
 refine bp (ng rfl _ _ w.heap.size _ _ _ rfl (CI.new w _ _ _)) rfl ?_;exact⟨rfl,br.alloc lr _⟩
theorem bn (op:Int)(w:E):Calls Tryz.prog 143 #[N I op] w fun e b=>e=QD (QE #[N I op,U ⟨#[]⟩,N I 0])/\Below w.heap.size w b:=by
 go_enter Tryz.func143,Tryz.ntmps143;go_wp2;try simp only[Exit.inBlock,Exit.then]
 refine bp (ng rfl _ _ w.heap.size _ _ _ rfl (CI.new w _ _ _)) rfl ?_;exact⟨rfl,br.alloc lr _⟩
theorem bK (op n:Int)(w:E):Calls Tryz.prog 205 #[N I op,N I n] w fun e b=>e=QD (QE #[N I op,U ⟨#[]⟩,N I n])/\Below w.heap.size w b:=by
 go_enter Tryz.func205,Tryz.ntmps205;go_wp2;try simp only[Exit.inBlock,Exit.then]
 refine bp (ng rfl _ _ w.heap.size _ _ _ rfl (CI.new w _ _ _)) rfl ?_;exact⟨rfl,br.alloc lr _⟩
theorem mJ (n:Int)(w:E):Calls Tryz.prog 237 #[N I n] w fun e b=>e=QD (N I (if 200<n then 200 else n))/\b=w:=by
 by_cases h:200<n
 ·rw[eT h]
  go_enter Tryz.func237,Tryz.ntmps237;go_wp2;go_ret;exact⟨rfl,rfl⟩
 ·rw[a8 h]
  go_enter Tryz.func237,Tryz.ntmps237;go_wp2;go_ret;exact⟨rfl,rfl⟩
theorem fx (R p:Nat)(w:E)(hR:Rd w R p)(hp:(p:Int)<=90000):Calls Tryz.prog 56 #[.pointer (Q (J R 0 Z))] w fun e i=>∃ t:ByteArray,e=QD (U t)/\t.size<=30/\Rd i R (p+1)/\Only R w i:=by
 have j:=ae hR;clear hR;go_enter Tryz.func56,Tryz.ntmps56;go_wp2_with fail;refine(aD R p 16 _ j (by omega) (by omega) (by omega)).mono ?_;rintro e w1 ⟨z,rfl,hz0,hz1,f,d⟩;have g:=ae f;have h:=ae d;clear f d;by_cases h6:z<6
 ·rcases(show z=0∨z=1∨z=2∨z=3∨z=4∨z=5 by omega) with rfl | rfl | rfl | rfl | rfl | rfl
  all_goals
   go_wp2;go_ret;exact⟨_,rfl,by decide,g,h⟩
 ·by_cases h14:z<14
  ·obtain⟨m,rfl⟩:∃ m:Nat,z=(m:Int)+6:=⟨(z - 6).toNat,by omega⟩
   have hm:m<=7:=by omega
   have k:=ae (fun V=>pH m (by omega) V);have hd:=Cp m (by omega);go_wp2_with fail;refine(k _).mono ?_;rintro e w2 ⟨rfl,b⟩;have n:=ae (g.below b lr);have l:=ae (h.trans (Only.of_below b));clear b;go_wp2;go_ret;exact⟨_,rfl,by rw[JP];show 1+(Lib.decDigits m).length<=30;omega,n,l⟩
  ·go_wp2
   go_ret;exact⟨_,rfl,by decide,g,h⟩
theorem zP:∃ i,Tryz.prog.info? 188=Q i/\i.zero=Q (QE #[N I 0,U ⟨#[]⟩,N I 0])/\i.size=3/\i.bytes=32:=by obtain⟨i,hi,hz⟩:=KE.1 mx;simp only[CV] at hz;exact⟨i,hi,hz⟩
def IR (w:E)(b g c:Nat)(L:List I3):Prop:=w.ownsRow b 188 3 (Y (Q (J g 0 Z)) L.length c) L.length (i3L L)
theorem IR.below {w d:E}{b g c B:Nat}{L:List I3}(h:IR w b g c L)(hb:Below B w d)(f:w.heap.size<=B):IR d b g c L:=own_below h hb f
theorem IR.lt {w:E}{b g c:Nat}{L:List I3}(h:IR w b g c L):b<=g/\g<w.heap.size:=World.ownsRow.lt h g rfl
theorem IR.only {w d:E}{b g c R:Nat}{L:List I3}(h:IR w b g c L)(f:Only R w d)(hR:R<b):IR d b g c L:=gy h f hR
theorem IR.lit (w:E):IR (w.alloc (T #[] 188)) w.heap.size w.heap.size 0 [] :=
 ⟨by simp[i3L],.inr ⟨w.heap.size,0,#[],rfl,j6 _,eL w _,j6 _,by unfold maxLen;omega,by simp,by simp[i3L]⟩⟩
theorem uH (L M:List I3):i3L (L++M)=i3L L++i3L M:=by simp[i3L]
theorem Cx (L:List I3):∀ u∈i3L L,u.oneCell'=true:=by intro u d;simp only[i3L,List.mem_flatMap,i3V] at d;obtain⟨x,_,b⟩:=d;simp at b;rcases b with rfl | rfl | rfl<;>simp[Value.oneCell']
theorem gZ (b off j:Nat):((J b off Z):Addr).add j=(J b (off+j) Z):=by unfold Addr.add;split<;>simp_all
theorem fQ (w:E)(b:Array QB)(t:TypeId):∀ j u,b.toList[j]?=Q u->(w.alloc (T b t)).cell? (((J w.heap.size 0 Z):Addr).add j)=Q u:=by intro j u d;rw[gZ,C9];exact jA w b t w.heap.size j u rfl (by simpa using d)
theorem IR.news {w:E}{b g c:Nat}{L:List I3}(h:IR w b g c L):∀ j u,(i3L L)[j]?=Q u->w.cell? (((J g 0 Z):Addr).add j)=Q u:=fun j u d=>World.ownsRow.cells h (g:=g) rfl j u d
theorem gA {p:Array Oper}{rest:List Oper}{o:Oper}{a:Act}{QL:Exit->Act->E->Prop}{w:E}(y:o.guard=Z)(s x:Operand)
  (QP:o.op=.call { callee:=.builtin .append,args:=#[s,x],argTypes:=#[29,29] }) (b g c:Nat) (L:List I3) (H:a.eval s=Y (Q (J g 0 Z)) L.length c) (r:IR w b g c L)
  (t:Addr) (m d:Nat) (M:List I3) (QN:a.eval x=Y (Q t) m d) (K:m=M.length) (A:M≠[]) (l:∀ j u,(i3L M)[j]?=Q u->w.cell? (t.add j)=Q u) (hlen:L.length+M.length<=100000) (hb:b<=w.heap.size)
  (h:∀ f i k,IR k b f i (L++M)->w.grownBy k (Q g)->wpList Tryz.prog p QL rest (a.put o.dst (Y (Q (J f 0 Z)) (L++M).length i)) k):wpList Tryz.prog p QL (o :: rest) a w:=by
 obtain⟨QM,hi,C,QQ,B⟩:=zP;subst K;refine CL _ y s x 29 QP b 188 QM (QE #[N I 0,U ⟨#[]⟩,N I 0]) 3 32 Tryz.underlying29 hi C QQ B rfl (by decide) _ L.length (i3L L) H r t M.length d (i3L M) QN (iM M) l (Cx M) (by unfold maxLen;omega) (by omega) hb ?_;intro QO k n G _;have hp:0<M.length:=IE.2 A;have q:∃ f i,QO=Y (Q (J f 0 Z)) (L.length+M.length) i:=by
  rcases n.2 with ⟨_,h0⟩ | ⟨f,z,cur,q,_⟩
  ·omega
  ·exact⟨f,z,q⟩
 obtain⟨f,i,rfl⟩:=q;have e:(L++M).length=L.length+M.length:=cM;rw[<-e] at n ⊢;rw[<-uH] at n;exact h f i k n G
def DI (w:E)(R q n:Nat)(e:Ending)(b:E):Prop:=∃ (L:List I3) (g c:Nat),e=QD (Y (Q (J g 0 Z)) L.length c)/\IR b w.heap.size g c L/\L≠[]/\L.length<=n/\(∀ i∈L,i.2.1.length<=5000)/\∃ d:Nat,d<=q/\Rd b R d/\Only R w b
theorem rQ:∀ (L:List I3) (i:Nat) (n:Int) (x:I3),L[i]?=Q x->i3L (L.set i (x.1,x.2.1,n))=(i3L L).set (i*3+2) (N I n)
 | [],i,n,x,h=>by simp at h
 | y :: L,0,n,x,h=>by simp at h;subst h;rfl
 | y :: L,i+1,n,x,h=>by simp at h;have d:=rQ L i n x h;have b:(i3V y).length=3:=rfl;rw[List.set_cons_succ];show i3V y++i3L (L.set i (x.1,x.2.1,n))=(i3V y++i3L L).set ((i+1)*3+2) (N I n);rw[d,MC _ _ (by rw[b];omega),b,show(i+1)*3+2 - 3=i*3+2 by omega]
theorem IR.setN {w:E}{b g c:Nat}{L:List I3}(h:IR w b g c L){i:Nat}(hi:i<L.length)(n:Int):∃ f,f.length=L.length/\((∀ x∈L,x.2.1.length<=5000)->∀ x∈f,x.2.1.length<=5000)/\IR (w.setCell (J g (i*3+2) Z) (N I n)) b g c f:=by
 have o:L[i]?=Q L[i]:=gq hi;refine⟨L.set i (L[i].1,L[i].2.1,n),IS,fun k x p=>?_,?_⟩
 ·rcases JG p with h1 | h1
  ·exact k x h1
  ·rw[h1]
   exact k L[i] (gz hi)
 ·unfold IR
  rw[IS,rQ L i n L[i] o];refine⟨by rw[IS];exact h.1,?_⟩;rcases h.2 with ⟨d,h0⟩ | ⟨g',cap,j,d,hb,m,h1,h2,l,q⟩
  ·simp at d
  ·simp only[CN,EQ,KJ] at d
   obtain⟨⟨rfl,-⟩,-,rfl⟩:=d;refine .inr ⟨g,c,j.setIfInBounds (i*3+2) (N I n),rfl,hb,?_,h1,h2,by simpa using l,?_⟩
   ·simp[World.setCell,I5,m]
   ·rw[JM,NK,q]
theorem IR.cellN {w:E}{d g c:Nat}{L:List I3}(h:IR w d g c L){i:Nat}(hi:i<L.length):(∃ v,w.cell? (J g (i*3+2) Z)=Q (N I v))/\w.frozen? (J g (i*3+2) Z)=false:=by
 have n:L[i]?=Q L[i]:=gq hi;have k:∀ (L:List I3) (i:Nat) (x:I3),L[i]?=Q x->(i3L L)[i*3+2]?=Q (N I x.2.2):=by
  intro L;induction L with
  | nil=>intro i x h;simp at h
  | cons y L m =>
   intro i x h;cases i with
   | zero=>simp at h;subst h;rfl
   | succ i =>simp at h;have f:(i3V y).length=3:=rfl;show(i3V y++i3L L)[(i+1)*3+2]?=_;rw[AT (by rw[f];omega),f,show(i+1)*3+2 - 3=i*3+2 by omega];exact m i x h
 have j:=World.ownsRow.cells h (g:=g) rfl _ _ (k L i L[i] n);rw[gZ,C9] at j;refine⟨⟨_,j⟩,?_⟩;rcases h.2 with ⟨b,_⟩ | ⟨g',cap,cur,b,_,l,_⟩
 ·simp at b
 ·simp only[CN,EQ,KJ] at b
  obtain⟨⟨rfl,-⟩,-,rfl⟩:=b;exact NH l _
end Go.Proofs.YtkdimgejdocbbaaGreatDoor.Vp
