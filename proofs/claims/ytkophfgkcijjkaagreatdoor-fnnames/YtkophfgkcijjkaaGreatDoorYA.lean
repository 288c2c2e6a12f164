import Derived.Test.YtkophfgkcijjkaaGreatDoorZQ
import Derived.Test.YtkophfgkcijjkaaGreatDoorZM
import Derived.Lib.Builder
import Derived.Laws.ResultCell
import Derived.Laws.Rows
import Derived.Lib.IndexMore
import Derived.Lib.AtoiAll
set_option maxRecDepth 100000
set_option maxHeartbeats 2000000
namespace Go.Proofs.YtkophfgkcijjkaaGreatDoor.Vp
open RowKit
def CI (w:World)(b:Nat)(x y z:Value):Prop:=w.heap[b]?=some (.cells #[x,y,z] 176 (0,0))
theorem CI.lt {w:World}{b:Nat}{x y z:Value}(h:CI w b x y z):b<w.heap.size:=(Array.getElem?_eq_some_iff.1 h).1
theorem CI.c0 {w:World}{b:Nat}{x y z:Value}(h:CI w b x y z):w.cell? ⟨b,0,none⟩=some x:=by rw[Lib.cell_of_heap h];rfl
theorem CI.c1 {w:World}{b:Nat}{x y z:Value}(h:CI w b x y z):w.cell? ⟨b,1,none⟩=some y:=by rw[Lib.cell_of_heap h];rfl
theorem CI.c2 {w:World}{b:Nat}{x y z:Value}(h:CI w b x y z):w.cell? ⟨b,2,none⟩=some z:=by rw[Lib.cell_of_heap h];rfl
theorem CI.fz {w:World}{b:Nat}{x y z:Value}(h:CI w b x y z)(j:Nat):w.frozen? ⟨b,j,none⟩=false:=Lib.frozen_of_heap h j
theorem CI.below {w c:World}{b B:Nat}{x y z:Value}(h:CI w b x y z)(hb:Below B w c)(d:b<B):CI c b x y z:=(hb.block b d).trans h
theorem CI.new (w:World)(x y z:Value):CI (w.alloc (.cells #[x,y,z] 176)) w.heap.size x y z:=heap_alloc_new w _
theorem CI.other {w:World}{b:Nat}{x y z:Value}(h:CI w b x y z)(p:Addr)(c:p.block≠b)(v:Value):CI (w.setCell p v) b x y z:=by unfold CI at *;simp[World.setCell,Array.getElem?_modify,c,h]
theorem CI.set1 {w:World}{b:Nat}{x y z:Value}(h:CI w b x y z)(v:Value):CI (w.setCell ⟨b,1,none⟩ v) b x v z:=by unfold CI at *;simp[World.setCell,Array.getElem?_modify,h]
theorem CI.set2 {w:World}{b:Nat}{x y z:Value}(h:CI w b x y z)(v:Value):CI (w.setCell ⟨b,2,none⟩ v) b x y v:=by unfold CI at *;simp[World.setCell,Array.getElem?_modify,h]
theorem CI.set0 {w:World}{b:Nat}{x y z:Value}(h:CI w b x y z)(v:Value):CI (w.setCell ⟨b,0,none⟩ v) b v y z:=by unfold CI at *;simp[World.setCell,Array.getElem?_modify,h]
theorem CI.all {w:World}{b:Nat}{x y z:Value}(h:CI w b x y z)(f d c:Value):CI (((w.setCell ⟨b,0,none⟩ f).setCell ⟨b,1,none⟩ d).setCell ⟨b,2,none⟩ c) b f d c:=((h.set0 f).set1 d).set2 c
theorem xI:(Tryz.prog.info? 176).map (·.size)=some 3:=by kernel_rfl
abbrev I3:=Int × List UInt8 × Int
def i3V (i:I3):List Value:=[.int .i64 i.1,.string ⟨i.2.1.toArray⟩,.int .i64 i.2.2]
def i3L (L:List I3):List Value:=L.flatMap i3V
theorem gG:∀ L:List I3,(i3L L).length=L.length*3
 | []=>rfl
 | i :: L=>by have:=gG L;simp only[i3L,List.flatMap_cons,List.length_append,List.length_cons] at this ⊢;rw[this];simp[i3V];omega
theorem vL {w:World}{b c n R j:Nat}{e:TypeId}{v:Value}{f:List Value}(h:w.ownsRow b e c v n f)(hR:R<b)(u:Value):(w.setCell ⟨R,j,none⟩ u).ownsRow b e c v n f:=by
 refine⟨h.1,?_⟩;rcases h.2 with hn | ⟨g,cap,d,i,k,l,r⟩
 ·exact .inl hn
 ·refine .inr ⟨g,cap,d,i,k,?_,r⟩
  have:R≠g:=by omega
  simp[World.setCell,Array.getElem?_modify,this,l]
def PB (w:World)(b:Nat)(v:Value):Prop:=w.heap[b]?=some (.cells #[v] 31 (0,0))
theorem PB.lt {w:World}{b:Nat}{v:Value}(h:PB w b v):b<w.heap.size:=(Array.getElem?_eq_some_iff.1 h).1
theorem PB.c0 {w:World}{b:Nat}{v:Value}(h:PB w b v):w.cell? ⟨b,0,none⟩=some v:=by rw[Lib.cell_of_heap h];rfl
theorem PB.fz {w:World}{b:Nat}{v:Value}(h:PB w b v)(j:Nat):w.frozen? ⟨b,j,none⟩=false:=Lib.frozen_of_heap h j
theorem PB.below {w c:World}{b B:Nat}{v:Value}(h:PB w b v)(hb:Below B w c)(d:b<B):PB c b v:=(hb.block b d).trans h
theorem PB.set {w:World}{b:Nat}{v:Value}(h:PB w b v)(c:Value):PB (w.setCell ⟨b,0,none⟩ c) b c:=by unfold PB at *;simp[World.setCell,Array.getElem?_modify,h]
theorem PB.other {w:World}{b:Nat}{v:Value}(h:PB w b v)(p:Addr)(c:p.block≠b)(u:Value):PB (w.setCell p u) b v:=by unfold PB at *;simp[World.setCell,Array.getElem?_modify,c,h]
theorem qK:(Tryz.prog.info? 31).map (·.size)=some 1:=by kernel_rfl
theorem kZ {fn:Func}{p:Tmp}(h:fn.results=#[.cell p 176])(tmps:Array Value)(w:World)(g:Nat)(x y z:Value)(b:tmps.getD p undef=.pointer (some ⟨g,0,none⟩))(c:CI w g x y z):(results fn tmps).run Tryz.prog w=.ok (.agg #[x,y,z]) w :=
 results_cell_row h tmps w g 176 #[x,y,z] (0,0) _ b c Tryz.underlying176 rfl xI
theorem aY (s:ByteArray)(w:World):Calls Tryz.prog 128 #[.string s] w fun e b=>e=.returned (.agg #[.int .i64 1,.string s,.int .i64 0])/\Below w.heap.size w b:=by
 go_enter Tryz.func128,Tryz.ntmps128;go_wp2;try simp only[Exit.inBlock,Exit.then]
 refine bp (kZ rfl _ _ w.heap.size _ _ _ rfl (CI.new w _ _ _)) rfl ?_;exact⟨rfl,br.alloc ly _⟩
theorem aR (op:Int)(w:World):Calls Tryz.prog 129 #[.int .i64 op] w fun e b=>e=.returned (.agg #[.int .i64 op,.string ⟨#[]⟩,.int .i64 0])/\Below w.heap.size w b:=by
 go_enter Tryz.func129,Tryz.ntmps129;go_wp2;try simp only[Exit.inBlock,Exit.then]
 refine bp (kZ rfl _ _ w.heap.size _ _ _ rfl (CI.new w _ _ _)) rfl ?_;exact⟨rfl,br.alloc ly _⟩
theorem bh (op n:Int)(w:World):Calls Tryz.prog 184 #[.int .i64 op,.int .i64 n] w fun e b=>e=.returned (.agg #[.int .i64 op,.string ⟨#[]⟩,.int .i64 n])/\Below w.heap.size w b:=by
 go_enter Tryz.func184,Tryz.ntmps184;go_wp2;try simp only[Exit.inBlock,Exit.then]
 refine bp (kZ rfl _ _ w.heap.size _ _ _ rfl (CI.new w _ _ _)) rfl ?_;exact⟨rfl,br.alloc ly _⟩
theorem kE (n:Int)(w:World):Calls Tryz.prog 214 #[.int .i64 n] w fun e b=>e=.returned (.int .i64 (if 200<n then 200 else n))/\b=w:=by
 by_cases h:200<n
 ·rw[if_pos h]
  go_enter Tryz.func214,Tryz.ntmps214;go_wp2;go_ret;exact⟨rfl,rfl⟩
 ·rw[if_neg h]
  go_enter Tryz.func214,Tryz.ntmps214;go_wp2;go_ret;exact⟨rfl,rfl⟩
theorem cX (R p:Nat)(w:World)(hR:Rd w R p)(hp:(p:Int)<=90000):Calls Tryz.prog 50 #[.pointer (some ⟨R,0,none⟩)] w fun e h=>∃ t:ByteArray,e=.returned (.string t)/\t.size<=30/\Rd h R (p+1)/\Only R w h:=by
 have k:=ae hR;clear hR;go_enter Tryz.func50,Tryz.ntmps50;go_wp2_with fail;refine(aA R p 16 _ k.out (by omega) (by omega) (by omega)).mono ?_;rintro e w1 ⟨z,rfl,hz0,hz1,c,d⟩;have g:=ae c;have f:=ae d;clear c d;by_cases h6:z<6
 ·rcases(show z=0∨z=1∨z=2∨z=3∨z=4∨z=5 by omega) with rfl | rfl | rfl | rfl | rfl | rfl
  all_goals
   go_wp2;go_ret;exact⟨_,rfl,by decide,g.out,f.out⟩
 ·by_cases h14:z<14
  ·obtain⟨m,rfl⟩:∃ m:Nat,z=(m:Int)+6:=⟨(z - 6).toNat,by omega⟩
   have hm:m<=7:=by omega
   have i:=ae (fun V=>nA m (by omega) V);have hd:=xE m (by omega);go_wp2_with fail;refine(i.out _).mono ?_;rintro e w2 ⟨rfl,b⟩;have j:=ae (g.out.below b ly);have l:=ae (f.out.trans (Only.of_below b));clear b;go_wp2;go_ret;exact⟨_,rfl,by rw[ByteArray.size_append];show 1+(Lib.decDigits m).length<=30;omega,j.out,l.out⟩
  ·go_wp2
   go_ret;exact⟨_,rfl,by decide,g.out,f.out⟩
theorem lc:∃ i,Tryz.prog.info? 176=some i/\i.zero=some (.agg #[.int .i64 0,.string ⟨#[]⟩,.int .i64 0])/\i.size=3/\i.bytes=32:=by obtain⟨i,hi,hz⟩:=Option.map_eq_some_iff.1 j7;simp only[Prod.mk.injEq] at hz;exact⟨i,hi,hz⟩
def IR (w:World)(b g c:Nat)(L:List I3):Prop:=w.ownsRow b 176 3 (.slice (some ⟨g,0,none⟩) L.length c) L.length (i3L L)
theorem IR.below {w d:World}{b g c B:Nat}{L:List I3}(h:IR w b g c L)(hb:Below B w d)(f:w.heap.size<=B):IR d b g c L:=own_below h hb f
theorem IR.lt {w:World}{b g c:Nat}{L:List I3}(h:IR w b g c L):b<=g/\g<w.heap.size:=World.ownsRow.lt h g rfl
theorem IR.only {w d:World}{b g c R:Nat}{L:List I3}(h:IR w b g c L)(f:Only R w d)(hR:R<b):IR d b g c L:=fh h f hR
theorem IR.lit (w:World):IR (w.alloc (.cells #[] 176)) w.heap.size w.heap.size 0 [] :=
 ⟨by simp[i3L],.inr ⟨w.heap.size,0,#[],rfl,Nat.le_refl _,heap_alloc_new w _,Nat.le_refl _,by unfold maxLen;omega,by simp,by simp[i3L]⟩⟩
theorem mK (L M:List I3):i3L (L++M)=i3L L++i3L M:=by simp[i3L]
theorem rK (L:List I3):∀ u∈i3L L,u.oneCell'=true:=by intro u c;simp only[i3L,List.mem_flatMap,i3V] at c;obtain⟨x,_,b⟩:=c;simp at b;rcases b with rfl | rfl | rfl<;>simp[Value.oneCell']
theorem fm (b off j:Nat):(⟨b,off,none⟩:Addr).add j=⟨b,off+j,none⟩:=by unfold Addr.add;split<;>simp_all
theorem bU (w:World)(b:Array Value)(t:TypeId):∀ j u,b.toList[j]?=some u->(w.alloc (.cells b t)).cell? ((⟨w.heap.size,0,none⟩:Addr).add j)=some u:=by intro j u c;rw[fm,Nat.zero_add];exact iU w b t w.heap.size j u rfl (by simpa using c)
theorem IR.news {w:World}{b g c:Nat}{L:List I3}(h:IR w b g c L):∀ j u,(i3L L)[j]?=some u->w.cell? ((⟨g,0,none⟩:Addr).add j)=some u:=fun j u d=>World.ownsRow.cells h (g:=g) rfl j u d
theorem bV {p:Array Oper}{rest:List Oper}{o:Oper}{a:Act}{Q:Exit->Act->World->Prop}{w:World}(z:o.guard=none)(s x:Operand)
  (D:o.op=.call { callee:=.builtin .append,args:=#[s,x],argTypes:=#[29,29] }) (b g c:Nat) (L:List I3) (J:a.eval s=.slice (some ⟨g,0,none⟩) L.length c) (r:IR w b g c L)
  (t:Addr) (m d:Nat) (M:List I3) (H:a.eval x=.slice (some t) m d) (E:m=M.length) (A:M≠[]) (l:∀ j u,(i3L M)[j]?=some u->w.cell? (t.add j)=some u) (hlen:L.length+M.length<=100000) (hb:b<=w.heap.size)
  (h:∀ f i k,IR k b f i (L++M)->w.grownBy k (some g)->wpList Tryz.prog p Q rest (a.put o.dst (.slice (some ⟨f,0,none⟩) (L++M).length i)) k):wpList Tryz.prog p Q (o :: rest) a w:=by
 obtain⟨G,hi,y,C,B⟩:=lc;subst E;refine wpList_append_own _ z s x 29 D b 176 G (.agg #[.int .i64 0,.string ⟨#[]⟩,.int .i64 0]) 3 32 Tryz.underlying29 hi y C B rfl (by decide) _ L.length (i3L L) J r t M.length d (i3L M) H (gG M) l (rK M) (by unfold maxLen;omega) (by omega) hb ?_;intro K k n I _;have hp:0<M.length:=List.length_pos_iff.2 A;have q:∃ f i,K=.slice (some ⟨f,0,none⟩) (L.length+M.length) i:=by
  rcases n.2 with ⟨_,h0⟩ | ⟨f,cap,cur,q,_⟩
  ·omega
  ·exact⟨f,cap,q⟩
 obtain⟨f,i,rfl⟩:=q;have e:(L++M).length=L.length+M.length:=List.length_append;rw[<-e] at n ⊢;rw[<-mK] at n;exact h f i k n I
def DI (w:World)(R q n:Nat)(e:Ending)(b:World):Prop:=∃ (L:List I3) (g c:Nat),e=.returned (.slice (some ⟨g,0,none⟩) L.length c)/\IR b w.heap.size g c L/\L≠[]/\L.length<=n/\(∀ i∈L,i.2.1.length<=5000)/\∃ d:Nat,d<=q/\Rd b R d/\Only R w b
theorem pa:∀ (L:List I3) (i:Nat) (n:Int) (x:I3),L[i]?=some x->i3L (L.set i (x.1,x.2.1,n))=(i3L L).set (i*3+2) (.int .i64 n)
 | [],i,n,x,h=>by simp at h
 | y :: L,0,n,x,h=>by simp at h;subst h;rfl
 | y :: L,i+1,n,x,h=>by simp at h;have c:=pa L i n x h;have b:(i3V y).length=3:=rfl;rw[List.set_cons_succ];show i3V y++i3L (L.set i (x.1,x.2.1,n))=(i3V y++i3L L).set ((i+1)*3+2) (.int .i64 n);rw[c,List.set_append_right _ _ (by rw[b];omega),b,show(i+1)*3+2 - 3=i*3+2 by omega]
theorem IR.setN {w:World}{b g c:Nat}{L:List I3}(h:IR w b g c L){i:Nat}(hi:i<L.length)(n:Int):∃ j,j.length=L.length/\((∀ x∈L,x.2.1.length<=5000)->∀ x∈j,x.2.1.length<=5000)/\IR (w.setCell ⟨g,i*3+2,none⟩ (.int .i64 n)) b g c j:=by
 have m:L[i]?=some L[i]:=gq hi;refine⟨L.set i (L[i].1,L[i].2.1,n),List.length_set,fun k x q=>?_,?_⟩
 ·rcases List.mem_or_eq_of_mem_set q with d | d
  ·exact k x d
  ·rw[d]
   exact k L[i] (gz hi)
 ·unfold IR
  rw[List.length_set,pa L i n L[i] m];refine⟨by rw[List.length_set];exact h.1,?_⟩;rcases h.2 with ⟨f,h0⟩ | ⟨g',cap,l,f,hb,p,d,r,o,s⟩
  ·simp at f
  ·simp only[Value.slice.injEq,Option.some.injEq,Addr.mk.injEq] at f
   obtain⟨⟨rfl,-⟩,-,rfl⟩:=f;refine .inr ⟨g,c,l.setIfInBounds (i*3+2) (.int .i64 n),rfl,hb,?_,d,r,by simpa using o,?_⟩
   ·simp[World.setCell,Array.getElem?_modify,p]
   ·rw[Array.toList_setIfInBounds,List.take_set,s]
theorem IR.cellN {w:World}{d g c:Nat}{L:List I3}(h:IR w d g c L){i:Nat}(hi:i<L.length):(∃ v,w.cell? ⟨g,i*3+2,none⟩=some (.int .i64 v))/\w.frozen? ⟨g,i*3+2,none⟩=false:=by
 have m:L[i]?=some L[i]:=gq hi;have f:∀ (L:List I3) (i:Nat) (x:I3),L[i]?=some x->(i3L L)[i*3+2]?=some (.int .i64 x.2.2):=by
  intro L;induction L with
  | nil=>intro i x h;simp at h
  | cons y L l =>
   intro i x h;cases i with
   | zero=>simp at h;subst h;rfl
   | succ i =>simp at h;have k:(i3V y).length=3:=rfl;show(i3V y++i3L L)[(i+1)*3+2]?=_;rw[List.getElem?_append_right (by rw[k];omega),k,show(i+1)*3+2 - 3=i*3+2 by omega];exact l i x h
 have j:=World.ownsRow.cells h (g:=g) rfl _ _ (f L i L[i] m);rw[fm,Nat.zero_add] at j;refine⟨⟨_,j⟩,?_⟩;rcases h.2 with ⟨b,_⟩ | ⟨g',cap,cur,b,_,n,_⟩
 ·simp at b
 ·simp only[Value.slice.injEq,Option.some.injEq,Addr.mk.injEq] at b
  obtain⟨⟨rfl,-⟩,-,rfl⟩:=b;exact Lib.frozen_of_heap n _
end Go.Proofs.YtkophfgkcijjkaaGreatDoor.Vp
