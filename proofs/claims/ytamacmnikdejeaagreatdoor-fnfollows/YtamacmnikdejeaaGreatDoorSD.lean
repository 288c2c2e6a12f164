import Derived.Test.YtamacmnikdejeaaGreatDoorProg
import Derived.WalkKit
import Derived.WalkSpells
import Derived.WalkLawsBesides
import Derived.Deep.OwnRows
import Derived.Deep.RegionWith
import Derived.Deep.QuietTactic
import Derived.BigQuiet
set_option maxHeartbeats 1000000
open Go.Addr renaming mk->N
open Go.Value renaming slice->Y
open Option renaming none->Z,some->T
open Go.Obj renaming cells->Q
open Go.IntKind renaming i64->I
open Go renaming World->G,Value->QE
open Bool renaming false->QB,true->QD
open Go.Ending renaming returned->QF
namespace Go.Proofs.YtamacmnikdejeaaGreatDoor.Vp
open RowKit
theorem lj {a b c:Nat}(h:a<b)(g:b<=c):a<c:=Nat.lt_of_lt_of_le h g
theorem q9 (w:G):Below w.heap.size w w:=Below.refl _ _
theorem br {B:Nat}{w:G}:Below B w w:=Below.refl _ _
abbrev sq:=@World.cell?_setCell_other
abbrev qh:=@Below.heap_setCell
abbrev bp:=@bodyPost_ret
abbrev gq:=@List.getElem?_eq_getElem
abbrev cq:=@World.cell?_of_block
abbrev bg:=@Below.grown
abbrev gj:=@List.getElem_mem
abbrev nj:=@List.not_mem_nil
abbrev mq:=@List.mem_cons_of_mem
abbrev a8:=@Below.refl
abbrev cM:=@if_neg
abbrev eI:=@List.length_append
abbrev eL:=@Nat.lt_succ_self
abbrev eT:=@heap_alloc_new
abbrev gM:=@if_pos
abbrev hU:=@List.mem_singleton
abbrev j2:=@List.getElem?_eq_some_iff
abbrev j4:=@Bool.and_eq_true
abbrev j5:=@decide_eq_true_eq
abbrev j6:=@Nat.le_refl
abbrev kP:=@IntKind.wrap_i64
abbrev nD:=@List.length_cons
abbrev nL:=@List.mem_append
abbrev nX:=@Int.eq_ofNat_of_zero_le
abbrev p6:=@List.mem_cons
abbrev p9:=@Nat.le_trans
abbrev wC:=@Nat.lt_of_lt_of_le
abbrev AI:=@World.cell?_setCell_same'
abbrev AS:=@List.length_singleton
abbrev AT:=@below_drewN
abbrev BC:=@congrArg
abbrev BG:=@World.ownsRow_nil
abbrev BO:=@Array.getElem?_eq_some_iff
abbrev BS:=@List.getElem?_append_right
abbrev CL:=@List.getD_eq_getElem?_getD
abbrev CV:=@Nat.le_succ
abbrev CW:=@wpList_append_own
abbrev DC:=@Option.some.inj
abbrev DN:=@Nat.zero_le
abbrev D0:=@Nat.zero_add
abbrev EQ:=@List.flatMap_append
abbrev E4:=@Nat.not_lt_zero
abbrev GD:=@List.length_nil
abbrev HJ:=@List.map_append
abbrev HU:=@List.mem_range
abbrev IA:=@Prod.mk.injEq
abbrev IB:=@Value.slice.injEq
abbrev IC:=@List.length_set
abbrev ID:=@List.pairwise_iff_getElem
abbrev IE:=@List.mem_of_getElem?
abbrev IF:=@Option.some.injEq
abbrev IG:=@List.getElem?_append_left
abbrev IH:=@List.getElem?_map
abbrev II:=@List.append_assoc
abbrev IJ:=@Array.getElem?_toList
abbrev IK:=@Array.getElem?_modify
abbrev IL:=@info_parts
abbrev IM:=@List.length_drop
abbrev IN:=@List.nil_append
abbrev IP:=@List.length_pos_iff
abbrev IQ:=@World.frozen?_of_block
abbrev IS:=@List.mem_append_left
abbrev IT:=@decide_eq_false_iff_not
abbrev IU:=@List.length_take
abbrev IW:=@List.mem_map
abbrev IX:=@ByteArray.toList_eq
abbrev IY:=@List.flatMap_cons
abbrev IZ:=@List.mem_or_eq_of_mem_set
abbrev I5:=@List.getElem?_set_self
abbrev I6:=@List.getElem?_eq_none
abbrev I7:=@World.ownsRow_made
abbrev I8:=@List.take_of_length_le
abbrev I9:=@Nat.add_zero
abbrev JA:=@List.range_succ
abbrev JB:=@List.cons_append
abbrev JC:=@ByteArray.size_append
abbrev JD:=@List.mem_append_right
abbrev JE:=@of_decide_eq_true
abbrev JF:=@decide_eq_true
abbrev JG:=@List.pairwise_append
abbrev JH:=@List.getElem?_of_mem
abbrev JI:=@Array.length_toList
abbrev JJ:=@Bool.true_and
abbrev JK:=@Nat.lt_or_ge
abbrev JL:=@Bool.eq_iff_iff
abbrev JM:=@Exit.noGoto_ret
abbrev JN:=@List.length_map
abbrev JO:=@List.getElem?_set_ne
abbrev JP:=@Array.getElem?_eq_none
abbrev JQ:=@or_false
abbrev JR:=@Bool.not_eq_false
abbrev JS:=@decide_eq_false
abbrev JT:=@Nat.min_eq_left
abbrev JU:=@List.findIdx?_eq_none_iff
abbrev JV:=@List.mem_flatMap
abbrev JW:=@Nat.add_sub_cancel
abbrev JX:=@List.mem_of_mem_take
abbrev JY:=@List.size_toArray
abbrev JZ:=@heap_alloc2_new
abbrev J0:=@Option.map_eq_some_iff
abbrev J2:=@Nat.sub_self
abbrev J4:=@Addr.mk.injEq
abbrev J5:=@Below.heap_setCell
abbrev J6:=@Int.tmod_eq_emod_of_nonneg
abbrev J7:=@Array.toList_setIfInBounds
abbrev J8:=@List.mem_cons_self
abbrev J9:=@List.take_append_drop
abbrev KE:=@List.length_replicate
abbrev KF:=@List.findIdx?_eq_some_iff_getElem
abbrev KH:=@Classical.byContradiction
abbrev KI:=@Value.slice.inj
abbrev KJ:=@Array.replicate_succ
abbrev KL:=@Array.replicate_zero
abbrev KM:=@Bool.and_true
abbrev KN:=@List.take_append_getElem
abbrev KO:=@List.append_toArray
abbrev KP:=@List.getElem_of_mem
abbrev KQ:=@Array.eq_empty_of_size_eq_zero
abbrev KT:=@Bool.false_and
abbrev KU:=@Bool.not_eq_true
abbrev KV:=@List.find?_eq_none
abbrev KZ:=@World.var?_cell
abbrev LA:=@Sum.inl.injEq
abbrev LB:=@List.set_append_right
abbrev LC:=@List.countP_mono_left
abbrev LD:=@List.countP_le_length
abbrev LE:=@List.push_toArray
abbrev LF:=@List.take_add_one
abbrev LG:=@List.ext_getElem?
abbrev LH:=@Nat.mod_lt
abbrev LI:=@List.cons_ne_nil
abbrev LJ:=@Nat.le_of_lt
abbrev LK:=@List.flatMap_map
abbrev LL:=@List.set_set
abbrev LM:=@List.drop_eq_getElem_cons
abbrev LN:=@beq_eq_false_iff_ne
abbrev LP:=@List.mem_map_of_mem
abbrev LQ:=@List.map_cons
abbrev LU:=@beq_iff_eq
abbrev LV:=@List.set_cons_succ
abbrev LX:=@List.filter_append
abbrev LY:=@Bool.not_eq_false'
abbrev LZ:=@Below.alloc
abbrev L8:=@List.length_eq_zero_iff
abbrev L9:=@if_false
abbrev MA:=@Nat.lt_of_succ_lt
abbrev MB:=@Nat.lt_trichotomy
abbrev MC:=@run_convert_bytes_back
abbrev ME:=@UInt8.not_lt
abbrev MG:=@List.getElem_drop
abbrev MH:=@DataW.trod_int
abbrev MI:=@World.frozen?_setCell
abbrev MJ:=@List.length_filter_le
abbrev MK:=@ownsRow_setCell_other
abbrev MN:=@ownsRow_setCell_below
abbrev MO:=@List.not_mem_nil
abbrev MP:=@List.any_eq_true
abbrev MQ:=@List.getElem_map
abbrev MR:=@Nat.add_assoc
abbrev MS:=@List.all_cons
abbrev MU:=@World.cell?_of_block
abbrev MV:=@true_and
abbrev MW:=@List.set_append_left
abbrev MX:=@Bool.or_eq_false_iff
abbrev MY:=@List.mem_of_mem_drop
abbrev MZ:=@Option.map_some
abbrev M0:=@IntKind.wrap_u8
abbrev M2:=@List.prefix_rfl
abbrev ND:=@List.append_nil
abbrev NE:=@List.mem_filter
abbrev NF:=@List.dropWhile_cons
abbrev NG:=@List.map_nil
abbrev NH:=@Nat.zero_mul
abbrev NI:=@List.all_nil
abbrev NJ:=@run_store
abbrev NK:=@Lib.frozen_of_heap
abbrev NL:=@List.prefix_append
abbrev NM:=@of_decide_eq_false
abbrev NN:=@List.pairwise_cons
abbrev NO:=@List.getElem?_take
abbrev NP:=@Int.le_refl
abbrev NQ:=@ByteArray.ext
abbrev NR:=@List.take_set
theorem ly {n:Nat}:n<=n:=Nat.le_refl n
theorem ae {p:Prop}(h:p):Hid p:=h
theorem nzL {f:Type}:(∀ (l:List f) (i:Nat) (a:f),l.toArray.setIfInBounds i a=(l.set i a).toArray)/\(∀ (a b:f) (l:List f),(a :: l).set 0 b=b :: l)/\∀ (a b:f) (l:List f) (i:Nat),(a :: l).set (i+1) b=a :: l.set i b :=
 ⟨fun _ _ _=>List.setIfInBounds_toArray ..,fun _ _ _=>rfl,fun _ _ _ _=>rfl⟩
theorem ED {W f:G}(hb:Below W.heap.size W f):(∀ b o,b<W.heap.size->f.cell? (N b o Z)=W.cell? (N b o Z))/\(∀ b o,b<W.heap.size->f.frozen? (N b o Z)=W.frozen? (N b o Z)) :=
 ⟨fun b o h=>hb.cell (p:=(N b o Z)) h,fun b o h=>hb.frozen (p:=(N b o Z)) h⟩
theorem cell_far (w:G)(p a:Addr)(v:QE)(h:p.block≠a.block):(w.setCell p v).cell? a=w.cell? a :=
 World.cell?_of_block (w:=w) (a:=a) (Below.heap_setCell w p v a.block (fun e=>h e.symm))
theorem bo {a b:Bool}(h:a=b):Ending.returned (.bool a)=QF (.bool b):=by rw[h]
theorem fN {a b:ByteArray}(h:a=b):Ending.returned (.string a)=QF (.string b):=by rw[h]
theorem lI {s:ByteArray}(h:s.size=0):s=⟨#[]⟩:=by obtain⟨a⟩:=s;have:a.size=0:=h;rw[Array.eq_empty_of_size_eq_zero this]
theorem lM {s:ByteArray}(h:¬ s.size=0):¬ s.toList=[]:=by
 intro e;have h2:s.toList.length=s.size:=by rw[ByteArray.toList_eq];rfl
 rw[e] at h2;simp at h2;omega
structure Ins where
 op:Int
 s:ByteArray
 n:Int
def AtIns (w:G)(b off i:Nat)(x:Ins):Prop :=
 w.cell? (N b (off+i*3) Z)=T (.int I x.op)/\w.cell? (N b (off+i*3+1) Z)=T (.string x.s)/\w.cell? (N b (off+i*3+2) Z)=T (.int I x.n)
theorem AtIns.below {w g:G}{B b off i:Nat}{x:Ins}(h:AtIns w b off i x)(hb:Below B w g)(f:b<B):AtIns g b off i x :=
 ⟨(hb.cell (p:=(N b _ Z)) f).trans h.1,(hb.cell (p:=(N b _ Z)) f).trans h.2.1,(hb.cell (p:=(N b _ Z)) f).trans h.2.2⟩
def RowIns (w:G)(b off n:Nat)(f:Nat->Ins):Prop:=b<w.heap.size/\∀ i,i<n->AtIns w b off i (f i)
theorem RowIns.below {w g:G}{B b off n:Nat}{f:Nat->Ins}(h:RowIns w b off n f)(hb:Below B w g)(j:w.heap.size<=B):RowIns g b off n f :=
 ⟨Nat.lt_of_lt_of_le h.1 hb.size,fun i hi=>(h.2 i hi).below hb (Nat.lt_of_lt_of_le h.1 j)⟩
def SlIns (w:G)(a:Option Addr)(n:Nat)(f:Nat->Ins):Prop:=n=0∨∃ b off,a=T (N b off Z)/\RowIns w b off n f
theorem SlIns.below {w g:G}{B:Nat}{a:Option Addr}{n:Nat}{f:Nat->Ins}(h:SlIns w a n f)(hb:Below B w g)(l:w.heap.size<=B):SlIns g a n f:=by
 rcases h with h | ⟨b,off,j,i⟩
 ·exact .inl h
 ·exact .inr ⟨b,off,j,i.below hb l⟩
theorem RowIns.sl {w:G}{b off n:Nat}{f:Nat->Ins}(h:RowIns w b off n f):SlIns w (T (N b off Z)) n f:=.inr ⟨b,off,rfl,h⟩
theorem pE:(Tryz.prog.info? 146).map (fun i=>(i.zero,i.size,i.bytes))=T (T (.agg #[.int I 0,.string ⟨#[]⟩,.int I 0]),3,32):=by kernel_rfl
def kind:Int->Int
 | 1=>1 | 3=>2 | 4=>2 | 5=>2 | 10=>3 | 11=>3 | _=>0
def bP (op:Int):Int:=if op=1 then 2000 else 0
def dM (op:Int):Int:=if op=3∨op=4∨op=5 then 2000 else if op=10∨op=11 then 200 else 0
def cy (op:Int)(sz:Nat)(n:Int):Bool:=decide (1<=op/\op<=15/\(sz:Int)<=bP op/\0<=n/\n<=dM op)
theorem vQ (op:Int)(s:ByteArray)(n:Int)(w:G)(b:s.size<=maxLen)(hz:¬ s.toList=[])(h0:0<s.size):Calls Tryz.prog 104 #[.agg #[.int I op,.string s,.int I n]] w fun e g=>e=QF (.bool (cy op s.size n))/\Below w.heap.size w g:=by
 unfold maxLen at b;by_cases h:1<=op/\op<=15
 ·have f:op=1∨op=2∨op=3∨op=4∨op=5∨op=6∨op=7∨op=8∨op=9∨op=10∨op=11∨op=12∨op=13∨op=14∨op=15:=by omega
  clear h;rcases f with rfl | rfl | rfl | rfl | rfl | rfl | rfl | rfl | rfl | rfl | rfl | rfl | rfl | rfl | rfl;all_goals
   go_enter Tryz.func104,Tryz.ntmps104;go_wp2;all_goals go_ret
   all_goals refine⟨bo ?_,(Below.refl _ _).alloc (Nat.le_refl _) _⟩
   all_goals (rw[Bool.eq_iff_iff];generalize s.size=z at *;simp[cy,bP,dM];try omega)
 ·rcases(show op<1∨15<op by omega) with h | h
  all_goals
   go_enter Tryz.func104,Tryz.ntmps104;go_wp2;go_ret;refine⟨bo ?_,(Below.refl _ _).alloc (Nat.le_refl _) _⟩;rw[Bool.eq_iff_iff];simp[cy];omega
theorem vR (op:Int)(n:Int)(w:G):Calls Tryz.prog 104 #[.agg #[.int I op,.string ⟨#[]⟩,.int I n]] w fun e f=>e=QF (.bool (cy op 0 n))/\Below w.heap.size w f:=by
 by_cases h:1<=op/\op<=15
 ·have b:op=1∨op=2∨op=3∨op=4∨op=5∨op=6∨op=7∨op=8∨op=9∨op=10∨op=11∨op=12∨op=13∨op=14∨op=15:=by omega
  clear h;rcases b with rfl | rfl | rfl | rfl | rfl | rfl | rfl | rfl | rfl | rfl | rfl | rfl | rfl | rfl | rfl;all_goals
   go_enter Tryz.func104,Tryz.ntmps104;go_wp2;all_goals go_ret
   all_goals refine⟨bo ?_,(Below.refl _ _).alloc (Nat.le_refl _) _⟩
   all_goals (rw[Bool.eq_iff_iff];simp[cy,bP,dM];try omega)
 ·rcases(show op<1∨15<op by omega) with h | h
  all_goals
   go_enter Tryz.func104,Tryz.ntmps104;go_wp2;go_ret;refine⟨bo ?_,(Below.refl _ _).alloc (Nat.le_refl _) _⟩;rw[Bool.eq_iff_iff];simp[cy];omega
theorem uc (op:Int)(s:ByteArray)(n:Int)(w:G)(b:s.size<=maxLen):Calls Tryz.prog 104 #[.agg #[.int I op,.string s,.int I n]] w fun e f=>e=QF (.bool (cy op s.size n))/\Below w.heap.size w f:=by
 by_cases h:s.size=0
 ·have e:=lI h
  subst e;exact vR op n w
 ·exact vQ op s n w b (lM h) (by omega)
theorem vS (k:Nat)(s:ByteArray)(n mt b:Int)(w:G)(h1:1<=(k:Int))(h2:(k:Int)<=15)
  (hT:w.cell? (N 0 (k*5+1) Z)=T (.int I mt)) (hN:w.cell? (N 0 (k*5+2) Z)=T (.int I b)) (hz:0<w.heap.size)
  (ht:(s.size:Int)<=mt) (hn:0<=n) :
  Calls Tryz.prog 153 #[.agg #[.int I k,.string s,.int I n]] w fun e f=>e=QF (.bool (decide (n<=b)))/\Below w.heap.size w f:=by
 go_enter Tryz.func153,Tryz.ntmps153;go_wp2;go_quiet (fail);go_wp2;go_ret;exact⟨rfl,below_drewN ((Below.refl _ _).alloc (Nat.le_refl _) _) _⟩
theorem vT (k:Nat)(s:ByteArray)(n mt:Int)(w:G)(h1:1<=(k:Int))(h2:(k:Int)<=15)
  (hT:w.cell? (N 0 (k*5+1) Z)=T (.int I mt)) (hz:0<w.heap.size)
  (ht:(s.size:Int)<=mt) (hn:n<0) :
  Calls Tryz.prog 153 #[.agg #[.int I k,.string s,.int I n]] w fun e b=>e=QF (.bool QB)/\Below w.heap.size w b:=by
 have hd:decide (0<=n)=QB:=by simp;omega
 go_enter Tryz.func153,Tryz.ntmps153;go_wp2;go_quiet (fail);go_wp2;go_ret;exact⟨rfl,below_drewN ((Below.refl _ _).alloc (Nat.le_refl _) _) _⟩
theorem vU (k:Nat)(s:ByteArray)(n mt:Int)(w:G)(h1:1<=(k:Int))(h2:(k:Int)<=15)
  (hT:w.cell? (N 0 (k*5+1) Z)=T (.int I mt)) (hz:0<w.heap.size)
  (ht:mt<(s.size:Int)) :
  Calls Tryz.prog 153 #[.agg #[.int I k,.string s,.int I n]] w fun e b=>e=QF (.bool QB)/\Below w.heap.size w b:=by
 have hd:decide ((s.size:Int)<=mt)=QB:=by simp;omega
 go_enter Tryz.func153,Tryz.ntmps153;go_wp2;go_quiet (fail);go_wp2;go_ret;exact⟨rfl,below_drewN ((Below.refl _ _).alloc (Nat.le_refl _) _) _⟩
theorem vV (op:Int)(s:ByteArray)(n:Int)(w:G)(h:op<1∨15<op):Calls Tryz.prog 153 #[.agg #[.int I op,.string s,.int I n]] w fun e b=>e=QF (.bool QB)/\Below w.heap.size w b:=by
 rcases h with h | h;all_goals
  go_enter Tryz.func153,Tryz.ntmps153;go_wp2;go_ret;exact⟨rfl,(Below.refl _ _).alloc (Nat.le_refl _) _⟩
def Tab (w:G):Prop:=0<w.heap.size/\∀ k:Nat,k<16->w.cell? (N 0 (k*5+1) Z)=T (.int I (bP k))/\w.cell? (N 0 (k*5+2) Z)=T (.int I (dM k))
theorem rV (op:Int)(s:ByteArray)(n:Int)(w:G)(f:Tab w):Calls Tryz.prog 153 #[.agg #[.int I op,.string s,.int I n]] w fun e l=>e=QF (.bool (cy op s.size n))/\Below w.heap.size w l:=by
 by_cases h:1<=op/\op<=15
 ·obtain⟨k,rfl⟩:=Int.eq_ofNat_of_zero_le (show 0<=op by omega)
  obtain⟨h1,h2⟩:=h;obtain⟨i,j⟩:=f.2 k (by omega);by_cases b:(s.size:Int)<=bP k
  ·by_cases hn:0<=n
   ·have e:cy (k:Int) s.size n=decide (n<=dM k):=by
     unfold cy;rw[Bool.eq_iff_iff,decide_eq_true_eq,decide_eq_true_eq];exact⟨fun h=>h.2.2.2.2,fun h=>⟨h1,h2,b,hn,h⟩⟩
    rw[e];exact vS k s n _ _ w h1 h2 i j f.1 b hn
   ·have e:cy (k:Int) s.size n=QB:=by
     unfold cy;rw[decide_eq_false_iff_not];exact fun h=>hn h.2.2.2.1
    rw[e];exact vT k s n _ w h1 h2 i f.1 b (by omega)
  ·have e:cy (k:Int) s.size n=QB:=by
    unfold cy;rw[decide_eq_false_iff_not];exact fun h=>b h.2.2.1
   rw[e];exact vU k s n _ w h1 h2 i f.1 (by omega)
 ·have e:cy op s.size n=QB:=by
   unfold cy;rw[decide_eq_false_iff_not];exact fun g=>h ⟨g.1,g.2.1⟩
  rw[e];exact vV op s n w (by omega)
def cQ (f:Nat->Ins):Nat->Bool
 | 0=>QD
 | k+1=>cQ f k && cy (f k).op (f k).s.size (f k).n
theorem qx {f:Nat->Ins}{k n:Nat}(h:k<=n)(hn:cQ f n=QD):cQ f k=QD:=by
 induction n with
 | zero =>
  obtain rfl:k=0:=by omega
  exact hn
 | succ m b =>
  by_cases e:k=m+1
  ·subst e;exact hn
  ·simp only[cQ,Bool.and_eq_true] at hn
   exact b (by omega) hn.1
theorem oF {f:Nat->Ins}{k n:Nat}(h:k<n)(b:cy (f k).op (f k).s.size (f k).n=QB):cQ f n=QB:=by
 cases e:cQ f n with
 | false=>rfl
 | true =>have h2:=qx (show k+1<=n by omega) e;simp[cQ,b] at h2
def valid (f:Nat->Ins)(n:Nat):Bool:=cQ f n && decide (1<=(n:Int)/\(n:Int)<=200)
theorem bN {f:Nat->Ins}{n:Nat}(h:valid f n=QD):cQ f n=QD/\1<=(n:Int)/\(n:Int)<=200:=by unfold valid at h;rw[Bool.and_eq_true,decide_eq_true_eq] at h;exact h
theorem js {f:Nat->Ins}{k n:Nat}(h:cQ f n=QD)(hk:k<n):cy (f k).op (f k).s.size (f k).n=QD:=by have:=qx (show k+1<=n by omega) h;simp only[cQ,Bool.and_eq_true] at this;exact this.2
theorem fH (b off n cap:Nat)(f:Nat->Ins)(w:G)(hn:n<=1048576)(hb:b<w.heap.size)(t:∀ i,i<n->AtIns w b off i (f i))(r:∀ i,i<n->(f i).s.size<=maxLen):Calls Tryz.prog 66 #[.agg #[Y (T (N b off Z)) n cap]] w fun e z=>e=QF (.bool (valid f n))/\Below w.heap.size w z:=by
 have A:=ae t;have C:=ae r;clear t r;go_enter Tryz.func66,Tryz.ntmps66;go_wp2;go_loopw [3] (fun i wr=>∃ k:Nat,k<=n/\i=.int I k/\cQ f k=QD/\Below (w.heap.size+1) (w.alloc (Q #[Y (T (N b off Z)) n cap] 43)) wr) (fun i _=>n - (intOf i).toNat);case atStart=>exact⟨0,by omega,rfl,rfl,Below.refl _ _⟩
 case round =>
  obtain⟨k,hk,rfl,o,h⟩:=hrel;have B:=ae h;have y:=ae o;have u:wr.cell? (N w.heap.size 0 Z)=T (Y (T (N b off Z)) n cap):=by rw[h.cell (p:=(N w.heap.size 0 Z)) (by simp)];simp
  have j:Hid (Below w.heap.size w wr):=((Below.refl _ _).alloc (Nat.le_refl _) _).trans (h.mono (by omega));have x:w.heap.size+1<=wr.heap.size:=by have:=h.size;simpa using this
  clear h o;by_cases g:k<n
  ·obtain⟨c0,c1,c2⟩:=(A k g).below j hb
   go_wp2_with fail;refine(uc _ _ _ _ (C k g)).mono ?_;rintro e z ⟨rfl,m⟩;have l:=ae m;clear m c0 c1 c2 u;cases hi:cy (f k).op (f k).s.size (f k).n with
   | false =>have q:=ae hi;clear hi;go_wp2;go_ret;refine⟨bo ?_,j.trans (l.mono j.size)⟩;simp[valid,oF g q.out]
   | true =>have q:=ae hi;clear hi;go_wp2;exact⟨⟨k+1,by omega,by go_num,by simp[cQ,y.out,q.out],B.trans (l.mono x)⟩,by simp[intOf];omega⟩
  ·have e:k=n:=by omega
   subst e;by_cases h1:1<=(k:Int)
   all_goals
    go_wp2;go_ret;refine⟨bo ?_,j⟩;rw[Bool.eq_iff_iff];simp[valid,y.out];try omega
theorem Tab.below {w g:G}{B:Nat}(h:Tab w)(hb:Below B w g)(f:0<B):Tab g :=
 ⟨Nat.lt_of_lt_of_le h.1 hb.size,fun k b=>⟨(hb.cell (p:=(N 0 _ Z)) f).trans (h.2 k b).1,(hb.cell (p:=(N 0 _ Z)) f).trans (h.2 k b).2⟩⟩
theorem lN (a:Option Addr)(n cap:Nat)(f:Nat->Ins)(w:G)(hn:n<=1048576)(h:(n:Int)<1∨200<(n:Int)):Calls Tryz.prog 116 #[.agg #[Y a n cap]] w fun e b=>e=QF (.bool (valid f n))/\Below w.heap.size w b:=by
 have e:valid f n=QB:=by unfold valid;rw[show decide (1<=(n:Int)/\(n:Int)<=200)=QB by simp;omega,Bool.and_false]
 rw[e];clear e;rcases h with h | h;all_goals
  go_enter Tryz.func116,Tryz.ntmps116;go_wp2;go_ret;exact⟨rfl,(Below.refl _ _).alloc (Nat.le_refl _) _⟩
theorem rj (b off n cap:Nat)(f:Nat->Ins)(w:G)(h1:1<=(n:Int))(h2:(n:Int)<=200)(hb:b<w.heap.size)(x:∀ i,i<n->AtIns w b off i (f i))(r:Tab w):Calls Tryz.prog 116 #[.agg #[Y (T (N b off Z)) n cap]] w fun e t=>e=QF (.bool (valid f n))/\Below w.heap.size w t:=by
 have A:=ae x;have B:=ae r;have y:=r.1;have u:Hid (valid f n=cQ f n):=by show valid f n=cQ f n;unfold valid;rw[show decide (1<=(n:Int)/\(n:Int)<=200)=QD by simp;omega,Bool.and_true]
 clear x r;go_enter Tryz.func116,Tryz.ntmps116;go_wp2;go_loopw [18] (fun i wr=>∃ k:Nat,k<=n/\i=.int I k/\cQ f k=QD/\Below w.heap.size w wr) (fun i _=>n - (intOf i).toNat);case atStart=>exact⟨0,by omega,rfl,rfl,(Below.refl _ _).alloc (Nat.le_refl _) _⟩
 case round =>
  obtain⟨k,hk,rfl,o,q⟩:=hrel;have g:=ae q;have z:=ae o;have l:w.heap.size<=wr.heap.size:=q.size;clear q o;by_cases h:k<n
  ·obtain⟨c0,c1,c2⟩:=(A k h).below g hb
   go_wp2_with fail;refine(rV _ _ _ _ (B.below (g.alloc l _) y)).mono ?_;rintro e t ⟨rfl,m⟩;have j:Hid (Below w.heap.size w t):=(g.alloc l _).trans (m.mono (by simp;omega));clear m c0 c1 c2;cases hi:cy (f k).op (f k).s.size (f k).n with
   | false =>have p:=ae hi;clear hi;go_wp2;go_ret;refine⟨bo ?_,j⟩;rw[u.out,oF h p.out]
   | true =>have p:=ae hi;clear hi;go_wp2;exact⟨⟨k+1,by omega,by go_num,by simp[cQ,z.out,p.out],j⟩,by simp[intOf];omega⟩
  ·have e:k=n:=by omega
   subst e;go_wp2;go_ret;exact⟨bo (by rw[u.out,z.out]),g.out⟩
theorem rm (b off n cap:Nat)(f:Nat->Ins)(w:G)(hn:n<=1048576)(hb:b<w.heap.size)(g:∀ i,i<n->AtIns w b off i (f i))(j:Tab w):Calls Tryz.prog 116 #[.agg #[Y (T (N b off Z)) n cap]] w fun e l=>e=QF (.bool (valid f n))/\Below w.heap.size w l:=by
 by_cases h:(n:Int)<1∨200<(n:Int)
 ·exact lN _ n cap f w hn h
 ·exact rj b off n cap f w (by omega) (by omega) hb g j
structure Only (b:Nat)(w w':G):Prop where
 os:w'.os=w.os
 tape:w'.tape=w.tape
 output:w'.output=w.output
 size:w.heap.size<=w'.heap.size
 block:∀ k,k<w.heap.size->k≠b->w'.heap[k]?=w.heap[k]?
 ty:∀ cs t fz,w.heap[b]?=T (Q cs t fz)->∃ cs',w'.heap[b]?=T (Q cs' t fz)
theorem Only.refl (b:Nat)(w:G):Only b w w:=⟨rfl,rfl,rfl,Nat.le_refl _,fun _ _ _=>rfl,fun f _ _ h=>⟨f,h⟩⟩
theorem ai {w:G}{i:Nat}{o:Obj}(h:w.heap[i]?=T o):i<w.heap.size:=by
 rcases Nat.lt_or_ge i w.heap.size with b | b
 ·exact b
 ·rw[Array.getElem?_eq_none b] at h;cases h
theorem bI {w:G}{b j:Nat}{f:Array QE}{t:TypeId}{fz:Nat × Nat}(h:w.heap[b]?=T (Q f t fz))(v:QE):(w.setCell (N b j Z) v).heap[b]?=T (Q (f.setIfInBounds j v) t fz):=by simp only[World.setCell,Array.getElem?_modify,if_pos,h,Option.map_some];rfl
theorem Only.trans {b:Nat}{u v w:G}(h:Only b u v)(k:Only b v w):Only b u w :=
 ⟨k.os.trans h.os,k.tape.trans h.tape,k.output.trans h.output,Nat.le_trans h.size k.size,fun i hi f=>(k.block i (Nat.lt_of_lt_of_le hi h.size) f).trans (h.block i hi f),fun g t fz hb=>let ⟨cs1,h1⟩:=h.ty g t fz hb;k.ty cs1 t fz h1⟩
theorem Only.of_below {b:Nat}{w f:G}(h:Below w.heap.size w f):Only b w f:=⟨h.os,h.tape,h.output,h.size,fun i hi _=>h.block i hi,fun g _ _ hb=>⟨g,(h.block b (ai hb)).trans hb⟩⟩
theorem Only.drew {b:Nat}{u w:G}(h:Only b u w):Only b u w.drew:=h.trans (Only.of_below (Below.refl _ _).drew)
theorem Only.al {b:Nat}{u w:G}(h:Only b u w)(o:Obj):Only b u (w.alloc o):=h.trans (Only.of_below ((Below.refl _ _).alloc (Nat.le_refl _) _))
theorem Only.below {b B:Nat}{w f:G}(h:Only b w f)(hB:B<=b)(hw:B<=w.heap.size):Below B w f:=⟨h.os,h.tape,h.output,h.size,fun k hk=>h.block k (by omega) (by omega)⟩
theorem Only.cell {b:Nat}{w f:G}(h:Only b w f)(k o:Nat)(g:k<w.heap.size)(hb:k≠b):f.cell? (N k o Z)=w.cell? (N k o Z):=World.cell?_of_block (w:=w) (a:=(N k o Z)) (h.block k g hb)
theorem ci {a w:G}{b:Nat}(h:Only b a w)(j:Nat)(v:QE):Only b a (w.setCell (N b j Z) v) :=
 h.trans ⟨rfl,rfl,rfl,by simp[World.setCell],fun k _ f=>Below.heap_setCell _ _ _ _ (by simpa using f),fun _ _ _ hb=>⟨_,bI hb v⟩⟩
theorem lO {P:Program}{fn:Func}{R:Ending->G->Prop}{a:Act}{w:G}(b:fn.results=#[])(f:a.defers=[])(hR:R (QF (.tuple #[])) w):bodyPost P fn R .normal a w :=
 bodyPost_end (v:=.tuple #[]) (by simp[results,b]) f hR
theorem pF {P:Program}{fn:Func}{R:Ending->G->Prop}{a:Act}{w:G}(b:fn.results=#[])(f:a.defers=[])(hR:R (QF (.tuple #[])) w):bodyPost P fn R .ret a w :=
 bodyPost_ret (v:=.tuple #[]) (by simp[results,b]) f hR
def Cs (w:G)(b n:Nat)(F:Nat->QE):Prop:=b<w.heap.size/\∀ j,j<n->w.cell? (N b j Z)=T (F j)/\w.frozen? (N b j Z)=QB
theorem Cs.below {w i:G}{B b n:Nat}{F:Nat->QE}(h:Cs w b n F)(hb:Below B w i)(f:b<B):Cs i b n F :=
 ⟨Nat.lt_of_lt_of_le h.1 hb.size,fun j g=>⟨(hb.cell (p:=(N b _ Z)) f).trans (h.2 j g).1,(hb.frozen (p:=(N b _ Z)) f).trans (h.2 j g).2⟩⟩
theorem Cs.set {w:G}{b n:Nat}{F QR:Nat->QE}(h:Cs w b n F)(j:Nat)(v:QE)(i:∀ x,x<n->QR x=if x=j then v else F x):Cs (w.setCell (N b j Z) v) b n QR:=by
 refine⟨by simpa using h.1,fun x f=>⟨?_,?_⟩⟩
 ·rw[i x f]
  by_cases e:x=j
  ·subst e
   exact(World.cell?_setCell_same' _ _ _ (by rw[(h.2 x f).1];rfl)).trans (by simp)
  ·have g:((N b j Z):Addr)≠(N b x Z):=by
    intro q;exact e (by simpa using q.symm)
   exact(World.cell?_setCell_other _ _ _ _ g).trans ((h.2 x f).1.trans (by simp[e]))
 ·have:=(h.2 x f).2
  simpa using this
structure Turn where
 over:Bool
 code:Int
 text:ByteArray
 ask:Bool
 name:ByteArray
 steps:Int
def Turn.v (t:Turn):QE:=.agg #[.bool t.over,.int I t.code,.string t.text,.bool t.ask,.string t.name,.int I t.steps]
def cO:Turn:=⟨QB,0,⟨#[]⟩,QB,⟨#[]⟩,0⟩
structure Mst where
 S:Nat->ByteArray
 size:Nat
 place:Int
 steps:Int
 looks:Int
 t:Turn
def Mst.F (b:QE)(m:Mst)(j:Nat):QE :=
 if j<50 then .string (m.S j) else if j=50 then .int I m.size else if j=51 then b else if j=52 then .int I m.place else if j=53 then .int I m.steps else if j=54 then .int I m.looks
 else if j=55 then .bool m.t.over else if j=56 then .int I m.t.code else if j=57 then .string m.t.text else if j=58 then .bool m.t.ask else if j=59 then .string m.t.name else if j=60 then .int I m.t.steps else .int I 0
def MAt (w:G)(b:Nat)(f:QE)(m:Mst):Prop:=Cs w b 61 (m.F f)
theorem MAt.below {w g:G}{B b:Nat}{f:QE}{m:Mst}(h:MAt w b f m)(hb:Below B w g)(i:b<B):MAt g b f m:=Cs.below h hb i
theorem MAt.lt {w:G}{b:Nat}{f:QE}{m:Mst}(h:MAt w b f m):b<w.heap.size:=h.1
theorem MAt.txt {w:G}{b:Nat}{g:QE}{m:Mst}(h:MAt w b g m)(j:Nat)(f:j<50):w.cell? (N b j Z)=T (.string (m.S j))/\w.frozen? (N b j Z)=QB :=
 ⟨(h.2 j (by omega)).1.trans (by simp[Mst.F,f]),(h.2 j (by omega)).2⟩
theorem MAt.fld {w:G}{b:Nat}{f:QE}{m:Mst}(h:MAt w b f m)(j:Nat)(v:QE)(g:j<61)(i:m.F f j=v):w.cell? (N b j Z)=T v/\w.frozen? (N b j Z)=QB :=
 ⟨(h.2 j g).1.trans (by rw[i]),(h.2 j g).2⟩
def upd (S:Nat->ByteArray)(k:Nat)(t:ByteArray)(j:Nat):ByteArray:=if j=k then t else S j
theorem MAt.setTxt {w:G}{b:Nat}{f:QE}{m:Mst}(h:MAt w b f m)(k:Nat)(g:k<50)(t:ByteArray):MAt (w.setCell (N b k Z) (.string t)) b f { m with S:=upd m.S k t } :=
 Cs.set h k _ (fun x _=>by
  by_cases e:x=k
  ·subst e;simp[Mst.F,g,upd]
  ·simp[Mst.F,upd,e])
theorem MAt.setSize {w:G}{b:Nat}{f:QE}{m:Mst}(h:MAt w b f m)(k:Nat)(z:Int)(hz:z=k):MAt (w.setCell (N b 50 Z) (.int I z)) b f { m with size:=k }:=by
 subst hz
 exact Cs.set h 50 _ (fun x _=>by
  by_cases e:x=50
  ·subst e;simp[Mst.F]
  ·simp[Mst.F,e])
theorem MAt.setPlace {w:G}{b:Nat}{f:QE}{m:Mst}(h:MAt w b f m)(k:Int):MAt (w.setCell (N b 52 Z) (.int I k)) b f { m with place:=k } :=
 Cs.set h 52 _ (fun x _=>by
  by_cases e:x=52
  ·subst e;simp[Mst.F]
  ·simp[Mst.F,e])
theorem MAt.setSteps {w:G}{b:Nat}{f:QE}{m:Mst}(h:MAt w b f m)(k:Int):MAt (w.setCell (N b 53 Z) (.int I k)) b f { m with steps:=k } :=
 Cs.set h 53 _ (fun x _=>by
  by_cases e:x=53
  ·subst e;simp[Mst.F]
  ·simp[Mst.F,e])
theorem MAt.setLooks {w:G}{b:Nat}{f:QE}{m:Mst}(h:MAt w b f m)(k:Int):MAt (w.setCell (N b 54 Z) (.int I k)) b f { m with looks:=k } :=
 Cs.set h 54 _ (fun x _=>by
  by_cases e:x=54
  ·subst e;simp[Mst.F]
  ·simp[Mst.F,e])
theorem MAt.set55 {w:G}{b:Nat}{f:QE}{m:Mst}(h:MAt w b f m)(x:Bool):MAt (w.setCell (N b 55 Z) (.bool x)) b f { m with t:={ m.t with over:=x } } :=
 Cs.set h 55 _ (fun y hy=>by
  by_cases e:y=55
  ·subst e;simp[Mst.F]
  ·simp only[Mst.F,e,if_false])
theorem MAt.set56 {w:G}{b:Nat}{f:QE}{m:Mst}(h:MAt w b f m)(x:Int):MAt (w.setCell (N b 56 Z) (.int I x)) b f { m with t:={ m.t with code:=x } } :=
 Cs.set h 56 _ (fun y hy=>by
  by_cases e:y=56
  ·subst e;simp[Mst.F]
  ·simp only[Mst.F,e,if_false])
theorem MAt.set57 {w:G}{b:Nat}{f:QE}{m:Mst}(h:MAt w b f m)(x:ByteArray):MAt (w.setCell (N b 57 Z) (.string x)) b f { m with t:={ m.t with text:=x } } :=
 Cs.set h 57 _ (fun y hy=>by
  by_cases e:y=57
  ·subst e;simp[Mst.F]
  ·simp only[Mst.F,e,if_false])
theorem MAt.set58 {w:G}{b:Nat}{f:QE}{m:Mst}(h:MAt w b f m)(x:Bool):MAt (w.setCell (N b 58 Z) (.bool x)) b f { m with t:={ m.t with ask:=x } } :=
 Cs.set h 58 _ (fun y hy=>by
  by_cases e:y=58
  ·subst e;simp[Mst.F]
  ·simp only[Mst.F,e,if_false])
theorem MAt.set59 {w:G}{b:Nat}{f:QE}{m:Mst}(h:MAt w b f m)(x:ByteArray):MAt (w.setCell (N b 59 Z) (.string x)) b f { m with t:={ m.t with name:=x } } :=
 Cs.set h 59 _ (fun y hy=>by
  by_cases e:y=59
  ·subst e;simp[Mst.F]
  ·simp only[Mst.F,e,if_false])
theorem MAt.set60 {w:G}{b:Nat}{f:QE}{m:Mst}(h:MAt w b f m)(x:Int):MAt (w.setCell (N b 60 Z) (.int I x)) b f { m with t:={ m.t with steps:=x } } :=
 Cs.set h 60 _ (fun y hy=>by
  by_cases e:y=60
  ·subst e;simp[Mst.F]
  ·simp only[Mst.F,e,if_false])
theorem MAt.setTurn {w:G}{b:Nat}{f:QE}{m:Mst}(h:MAt w b f m)(t:Turn):MAt ((((((w.setCell (N b 55 Z) (.bool t.over)).setCell (N b 56 Z) (.int I t.code)).setCell (N b 57 Z) (.string t.text)).setCell (N b 58 Z) (.bool t.ask)).setCell (N b 59 Z) (.string t.name)).setCell (N b 60 Z) (.int I t.steps)) b f { m with t:=t } :=
 (((((h.set55 t.over).set56 t.code).set57 t.text).set58 t.ask).set59 t.name).set60 t.steps
theorem MAt.turn {w:G}{b:Nat}{f:QE}{m:Mst}(h:MAt w b f m):(w.cell? (N b 55 Z)=T (.bool m.t.over)/\w.frozen? (N b 55 Z)=QB)/\(w.cell? (N b 56 Z)=T (.int I m.t.code)/\w.frozen? (N b 56 Z)=QB)/\(w.cell? (N b 57 Z)=T (.string m.t.text)/\w.frozen? (N b 57 Z)=QB)/\(w.cell? (N b 58 Z)=T (.bool m.t.ask)/\w.frozen? (N b 58 Z)=QB)/\(w.cell? (N b 59 Z)=T (.string m.t.name)/\w.frozen? (N b 59 Z)=QB)/\(w.cell? (N b 60 Z)=T (.int I m.t.steps)/\w.frozen? (N b 60 Z)=QB) :=
 ⟨h.fld 55 _ (by omega) (by simp[Mst.F]),h.fld 56 _ (by omega) (by simp[Mst.F]),h.fld 57 _ (by omega) (by simp[Mst.F]),h.fld 58 _ (by omega) (by simp[Mst.F]),h.fld 59 _ (by omega) (by simp[Mst.F]),h.fld 60 _ (by omega) (by simp[Mst.F])⟩
theorem BV {a w:G}{b:Nat}(h:Only b a w)(t:Turn):Only b a ((((((w.setCell (N b 55 Z) (.bool t.over)).setCell (N b 56 Z) (.int I t.code)).setCell (N b 57 Z) (.string t.text)).setCell (N b 58 Z) (.bool t.ask)).setCell (N b 59 Z) (.string t.name)).setCell (N b 60 Z) (.int I t.steps)) :=
 ci (ci (ci (ci (ci (ci h _ _) _ _) _ _) _ _) _ _) _ _
theorem pG (b:Nat)(h:QE)(m:Mst)(t:ByteArray)(w:G)(hM:MAt w b h m)(g:m.size<50):Calls Tryz.prog 190 #[.pointer (T (N b 0 Z)),.string t] w fun e i=>e=QF (.tuple #[])/\MAt i b h { m with S:=upd m.S m.size t,size:=m.size+1 }/\Only b w i:=by have j:=ae hM;obtain⟨c0,z0⟩:=hM.fld 50 (.int I m.size) (by omega) (by simp[Mst.F]);obtain⟨c1,z1⟩:=hM.txt m.size g;clear hM;go_enter Tryz.func190,Tryz.ntmps190;go_wp2;go_region_with fail;have f:=ae ((j.setTxt m.size g t).below (Below.refl _ _).drew (Nat.lt_succ_self _));clear c0 z0 c1 z1;obtain⟨c0,z0⟩:=f.fld 50 (.int I m.size) (by omega) (by simp[Mst.F]);go_wp2;refine lO rfl rfl ?_;exact⟨rfl,f.setSize (m.size+1) _ (by simp),ci (ci (Only.refl _ _) _ _).drew _ _⟩
theorem kj (b:Nat)(g:QE)(m:Mst)(k:Nat)(w:G)(hM:MAt w b g m)(i:m.size=k+1)(j:k<50):Calls Tryz.prog 221 #[.pointer (T (N b 0 Z))] w fun e h=>e=QF (.string (m.S k))/\MAt h b g { m with size:=k }/\Only b w h:=by have l:=ae hM;obtain⟨c0,z0⟩:=hM.fld 50 (.int I (k+1)) (by omega) (by simp[Mst.F,i]);clear hM;go_enter Tryz.func221,Tryz.ntmps221;go_wp2_with fail;have f:=ae (l.setSize k k rfl);obtain⟨c1,z1⟩:=f.txt k j;obtain⟨c2,z2⟩:=f.fld 50 (.int I k) (by omega) (by simp[Mst.F]);clear c0 z0;go_region_with fail;go_wp2;go_ret;exact⟨rfl,f.below (Below.refl _ _).drew (Nat.lt_succ_self _),(ci (Only.refl _ _) _ _).drew⟩
theorem jV (b:Nat)(f:QE)(m:Mst)(c:Int)(t:ByteArray)(w:G)(hM:MAt w b f m):Calls Tryz.prog 192 #[.pointer (T (N b 0 Z)),.int I c,.string t] w fun e g=>e=QF (.tuple #[])/\MAt g b f { m with t:=⟨QD,c,t,QB,⟨#[]⟩,m.steps⟩ }/\Only b w g:=by have h:=ae hM;obtain⟨c0,z0⟩:=hM.fld 53 (.int I m.steps) (by omega) (by simp[Mst.F]);obtain⟨c5,z5⟩:=hM.fld 55 (.bool m.t.over) (by omega) (by simp[Mst.F]);obtain⟨c6,z6⟩:=hM.fld 56 (.int I m.t.code) (by omega) (by simp[Mst.F]);obtain⟨c7,z7⟩:=hM.fld 57 (.string m.t.text) (by omega) (by simp[Mst.F]);obtain⟨c8,z8⟩:=hM.fld 58 (.bool m.t.ask) (by omega) (by simp[Mst.F]);obtain⟨c9,z9⟩:=hM.fld 59 (.string m.t.name) (by omega) (by simp[Mst.F]);obtain⟨c10,z10⟩:=hM.fld 60 (.int I m.t.steps) (by omega) (by simp[Mst.F]);clear hM;go_enter Tryz.func192,Tryz.ntmps192;go_wp2;refine lO rfl rfl ?_;exact⟨rfl,h.setTurn ⟨QD,c,t,QB,⟨#[]⟩,m.steps⟩,ci (ci (ci (ci (ci (ci (Only.refl _ _) _ _) _ _) _ _) _ _) _ _) _ _⟩
def aT (k:Nat):Nat:=if k=2∨k=6∨k=8 then 2 else if k=0∨k=1∨k=10∨15<k then 0 else 1
def bF (k:Nat):Nat:=if k=7∨k=8 then 2 else if k=0∨k=9∨k=10∨k=11∨13<k then 0 else 1
def Tab2 (w:G):Prop:=0<w.heap.size/\∀ k:Nat,k<16->w.cell? (N 0 (k*5+3) Z)=T (.int I (aT k))/\w.cell? (N 0 (k*5+4) Z)=T (.int I (bF k))
theorem Tab2.below {w g:G}{B:Nat}(h:Tab2 w)(hb:Below B w g)(f:0<B):Tab2 g :=
 ⟨Nat.lt_of_lt_of_le h.1 hb.size,fun k b=>⟨(hb.cell (p:=(N 0 _ Z)) f).trans (h.2 k b).1,(hb.cell (p:=(N 0 _ Z)) f).trans (h.2 k b).2⟩⟩
theorem bears_any (b:Nat)(g:QE)(m:Mst)(k:Nat)(w:G)(hM:MAt w b g m)(f:Tab2 w)(h1:1<=(k:Int))(h2:(k:Int)<=15)(hs:m.size<=50):Calls Tryz.prog 211 #[.pointer (T (N b 0 Z)),.int I k] w fun e h=>e=QF (.bool (decide (aT k<=m.size/\m.size - aT k+bF k<=50)))/\Below w.heap.size w h:=by
 have hT0:=f.1;obtain⟨c0,z0⟩:=hM.fld 50 (.int I m.size) (by omega) (by simp[Mst.F]);obtain⟨t0,t1⟩:=f.2 k (by omega);have k1:aT k<=2:=by unfold aT;split<;>(try split)<;>omega
 have k2:bF k<=2:=by unfold bF;split<;>(try split)<;>omega
 clear hM f;generalize aT k=x at *;generalize bF k=y at *;by_cases hx:x<=m.size
 ·go_enter Tryz.func211,Tryz.ntmps211
  go_wp2_with fail;go_quiet (fail);go_wp2;go_ret;refine⟨bo ?_,below_drewN (Below.refl _ _) _⟩;rw[Bool.eq_iff_iff];simp;omega
 ·go_enter Tryz.func211,Tryz.ntmps211
  go_wp2_with fail;go_quiet (fail);go_wp2_with fail;go_ret;refine⟨bo ?_,below_drewN (Below.refl _ _) _⟩;rw[Bool.eq_iff_iff];simp;omega
def cV (s:ByteArray):Nat->Bool
 | 0=>QD
 | k+1=>cV s k && (match s.data[k]? with | some c=>decide (33<=c.toNat/\c.toNat<=126) | none=>QB)
def au (s:ByteArray):Bool:=decide (1<=s.size/\s.size<=60) && cV s s.size
theorem ud {s:ByteArray}{k n:Nat}(h:k<=n)(hn:cV s n=QD):cV s k=QD:=by
 induction n with
 | zero =>
  obtain rfl:k=0:=by omega
  exact hn
 | succ m b =>
  by_cases e:k=m+1
  ·subst e;exact hn
  ·simp only[cV,Bool.and_eq_true] at hn
   exact b (by omega) hn.1
theorem gJ {s:ByteArray}{k:Nat}(h:k<s.size):cV s (k+1)=(cV s k && decide (33<=s[k].toNat/\s[k].toNat<=126)):=by
 have e:s.data[k]?=T s[k]:=by rw[Array.getElem?_eq_getElem h];rfl
 rw[cV,e]
theorem eA {s:ByteArray}{k:Nat}(h:k<s.size)(hk:¬ (33<=s[k].toNat/\s[k].toNat<=126)):cV s s.size=QB:=by
 cases e:cV s s.size with
 | false=>rfl
 | true =>have h2:=ud (show k+1<=s.size by omega) e;rw[gJ h] at h2;simp at h2;omega
theorem fu (s:ByteArray)(w:G):Calls Tryz.prog 123 #[.string s] w fun e m=>e=QF (.bool (au s))/\Below w.heap.size w m:=by
 by_cases h1:1<=(s.size:Int)
 ·by_cases h2:(s.size:Int)<=60
  ·have h:Hid (au s=cV s s.size):=by
    show au s=cV s s.size;unfold au;rw[show decide (1<=s.size/\s.size<=60)=QD by simp;omega,Bool.true_and]
   go_enter Tryz.func123,Tryz.ntmps123;go_wp2;go_loopw [14] (fun i wr=>∃ k:Nat,k<=s.size/\i=.int I k/\cV s k=QD/\Below w.heap.size w wr) (fun i _=>s.size - (intOf i).toNat);case atStart=>exact⟨0,by omega,rfl,rfl,Below.refl _ _⟩
   case round =>
    obtain⟨k,hk,rfl,g,j⟩:=hrel;have f:=ae j;have l:=ae g;clear j g;by_cases b:k<s.size
    ·by_cases p1:33<=(s[k].toNat:Int)
     ·by_cases p2:(s[k].toNat:Int)<=126
      ·go_wp2
       exact⟨⟨k+1,by omega,by go_num,by rw[gJ b,l.out];simp;omega,f⟩,by simp[intOf];omega⟩
      ·go_wp2
       go_ret;exact⟨bo (by rw[h.out,eA b (by omega)]),f⟩
     ·go_wp2
      go_ret;exact⟨bo (by rw[h.out,eA b (by omega)]),f⟩
    ·have e:k=s.size:=by omega
     subst e;go_wp2;go_ret;exact⟨bo (by rw[h.out,l.out]),f.out⟩
  ·have e:au s=QB:=by
    unfold au;rw[show decide (1<=s.size/\s.size<=60)=QB by simp;omega,Bool.false_and]
   rw[e];clear e;go_enter Tryz.func123,Tryz.ntmps123;go_wp2;go_ret;exact⟨rfl,Below.refl _ _⟩
 ·have e:au s=QB:=by
   unfold au;rw[show decide (1<=s.size/\s.size<=60)=QB by simp;omega,Bool.false_and]
  rw[e];clear e;go_enter Tryz.func123,Tryz.ntmps123;go_wp2;go_ret;exact⟨rfl,Below.refl _ _⟩
theorem cP (s:ByteArray)(w:G):Calls Tryz.prog 44 #[.string s] w fun e m=>e=QF (.bool (au s))/\Below w.heap.size w m:=by
 by_cases h1:1<=(s.size:Int)
 ·by_cases h2:(s.size:Int)<=60
  ·have h:Hid (au s=cV s s.size):=by
    show au s=cV s s.size;unfold au;rw[show decide (1<=s.size/\s.size<=60)=QD by simp;omega,Bool.true_and]
   go_enter Tryz.func44,Tryz.ntmps44;go_wp2;go_loopw [3] (fun i wr=>∃ k:Nat,k<=s.size/\i=.int I k/\cV s k=QD/\Below w.heap.size w wr) (fun i _=>s.size - (intOf i).toNat);case atStart=>exact⟨0,by omega,rfl,rfl,Below.refl _ _⟩
   case round =>
    obtain⟨k,hk,rfl,g,j⟩:=hrel;have f:=ae j;have l:=ae g;clear j g;by_cases b:k<s.size
    ·by_cases p1:33<=(s[k].toNat:Int)
     ·by_cases p2:(s[k].toNat:Int)<=126
      ·go_wp2
       exact⟨⟨k+1,by omega,by go_num,by rw[gJ b,l.out];simp;omega,f⟩,by simp[intOf];omega⟩
      ·go_wp2
       go_ret;exact⟨bo (by rw[h.out,eA b (by omega)]),f⟩
     ·go_wp2
      go_ret;exact⟨bo (by rw[h.out,eA b (by omega)]),f⟩
    ·have e:k=s.size:=by omega
     subst e;go_wp2;go_ret;exact⟨bo (by rw[h.out,l.out]),f.out⟩
  ·have e:au s=QB:=by
    unfold au;rw[show decide (1<=s.size/\s.size<=60)=QB by simp;omega,Bool.false_and]
   rw[e];clear e;go_enter Tryz.func44,Tryz.ntmps44;go_wp2;go_ret;exact⟨rfl,Below.refl _ _⟩
 ·have e:au s=QB:=by
   unfold au;rw[show decide (1<=s.size/\s.size<=60)=QB by simp;omega,Bool.false_and]
  rw[e];clear e;go_enter Tryz.func44,Tryz.ntmps44;go_wp2;go_ret;exact⟨rfl,Below.refl _ _⟩
structure aC where
 has:Bool
 code:Int
 text:ByteArray
def AtReply (w:G)(b off i:Nat)(x:aC):Prop :=
 w.cell? (N b (off+i*3) Z)=T (.bool x.has)/\w.cell? (N b (off+i*3+1) Z)=T (.int I x.code)/\w.cell? (N b (off+i*3+2) Z)=T (.string x.text)
theorem AtReply.below {w g:G}{B b off i:Nat}{x:aC}(h:AtReply w b off i x)(hb:Below B w g)(f:b<B):AtReply g b off i x :=
 ⟨(hb.cell (p:=(N b _ Z)) f).trans h.1,(hb.cell (p:=(N b _ Z)) f).trans h.2.1,(hb.cell (p:=(N b _ Z)) f).trans h.2.2⟩
def RowReply (w:G)(b off n:Nat)(f:Nat->aC):Prop:=b<w.heap.size/\∀ i,i<n->AtReply w b off i (f i)
theorem RowReply.below {w g:G}{B b off n:Nat}{f:Nat->aC}(h:RowReply w b off n f)(hb:Below B w g)(j:w.heap.size<=B):RowReply g b off n f :=
 ⟨Nat.lt_of_lt_of_le h.1 hb.size,fun i hi=>(h.2 i hi).below hb (Nat.lt_of_lt_of_le h.1 j)⟩
structure Source where
 name:ByteArray
 text:ByteArray
def AtSource (w:G)(b off i:Nat)(x:Source):Prop :=
 w.cell? (N b (off+i*2) Z)=T (.string x.name)/\w.cell? (N b (off+i*2+1) Z)=T (.string x.text)
theorem AtSource.below {w g:G}{B b off i:Nat}{x:Source}(h:AtSource w b off i x)(hb:Below B w g)(f:b<B):AtSource g b off i x :=
 ⟨(hb.cell (p:=(N b _ Z)) f).trans h.1,(hb.cell (p:=(N b _ Z)) f).trans h.2⟩
def RowSource (w:G)(b off n:Nat)(f:Nat->Source):Prop:=b<w.heap.size/\∀ i,i<n->AtSource w b off i (f i)
theorem RowSource.below {w g:G}{B b off n:Nat}{f:Nat->Source}(h:RowSource w b off n f)(hb:Below B w g)(j:w.heap.size<=B):RowSource g b off n f :=
 ⟨Nat.lt_of_lt_of_le h.1 hb.size,fun i hi=>(h.2 i hi).below hb (Nat.lt_of_lt_of_le h.1 j)⟩
def SlSource (w:G)(a:Option Addr)(n:Nat)(f:Nat->Source):Prop:=n=0∨∃ b off,a=T (N b off Z)/\RowSource w b off n f
theorem SlSource.below {w g:G}{B:Nat}{a:Option Addr}{n:Nat}{f:Nat->Source}(h:SlSource w a n f)(hb:Below B w g)(l:w.heap.size<=B):SlSource g a n f:=by
 rcases h with h | ⟨b,off,j,i⟩
 ·exact .inl h
 ·exact .inr ⟨b,off,j,i.below hb l⟩
theorem iC:(Tryz.prog.info? 121).map (fun i=>(i.zero,i.size,i.bytes))=T (T (.agg #[.string ⟨#[]⟩,.string ⟨#[]⟩]),2,32):=by kernel_rfl
structure Target where
 name:ByteArray
 actN:Nat
 act:Nat->Ins
def bk (x:Target):Prop:=x.actN<=1048576
def AtTarget (w:G)(b off i:Nat)(x:Target):Prop :=
 w.cell? (N b (off+i*2) Z)=T (.string x.name)/\(∃ a cap,w.cell? (N b (off+i*2+1) Z)=T (Y a x.actN cap)/\SlIns w a x.actN x.act)
theorem AtTarget.below {w l:G}{B b off i:Nat}{x:Target}(h:AtTarget w b off i x)(hb:Below B w l)(g:w.heap.size<=B)(j:b<w.heap.size):AtTarget l b off i x:=by obtain⟨m,⟨a0,f,s0,r0⟩⟩:=h;refine⟨(hb.cell (p:=(N b _ Z)) (Nat.lt_of_lt_of_le j g)).trans m,⟨a0,f,(hb.cell (p:=(N b _ Z)) (Nat.lt_of_lt_of_le j g)).trans s0,r0.below hb g⟩⟩
def RowTarget (w:G)(b off n:Nat)(f:Nat->Target):Prop:=b<w.heap.size/\∀ i,i<n->AtTarget w b off i (f i)
theorem RowTarget.below {w g:G}{B b off n:Nat}{f:Nat->Target}(h:RowTarget w b off n f)(hb:Below B w g)(j:w.heap.size<=B):RowTarget g b off n f :=
 ⟨Nat.lt_of_lt_of_le h.1 hb.size,fun i hi=>(h.2 i hi).below hb j h.1⟩
def SlTarget (w:G)(a:Option Addr)(n:Nat)(f:Nat->Target):Prop:=n=0∨∃ b off,a=T (N b off Z)/\RowTarget w b off n f
theorem SlTarget.below {w g:G}{B:Nat}{a:Option Addr}{n:Nat}{f:Nat->Target}(h:SlTarget w a n f)(hb:Below B w g)(l:w.heap.size<=B):SlTarget g a n f:=by
 rcases h with h | ⟨b,off,j,i⟩
 ·exact .inl h
 ·exact .inr ⟨b,off,j,i.below hb l⟩
theorem fw:(Tryz.prog.info? 125).map (fun i=>(i.zero,i.size,i.bytes))=T (T (.agg #[.string ⟨#[]⟩,Y Z 0 0]),2,40):=by kernel_rfl
def RowStr (w:G)(b off n:Nat)(f:Nat->ByteArray):Prop:=b<w.heap.size/\∀ i,i<n->w.cell? (N b (off+i) Z)=T (.string (f i))
theorem RowStr.below {w g:G}{B b off n:Nat}{f:Nat->ByteArray}(h:RowStr w b off n f)(hb:Below B w g)(j:w.heap.size<=B):RowStr g b off n f :=
 ⟨Nat.lt_of_lt_of_le h.1 hb.size,fun i hi=>(hb.cell (p:=(N b _ Z)) (Nat.lt_of_lt_of_le h.1 j)).trans (h.2 i hi)⟩
def SlStr (w:G)(a:Option Addr)(n:Nat)(f:Nat->ByteArray):Prop:=n=0∨∃ b off,a=T (N b off Z)/\RowStr w b off n f
theorem SlStr.below {w g:G}{B:Nat}{a:Option Addr}{n:Nat}{f:Nat->ByteArray}(h:SlStr w a n f)(hb:Below B w g)(l:w.heap.size<=B):SlStr g a n f:=by
 rcases h with h | ⟨b,off,j,i⟩
 ·exact .inl h
 ·exact .inr ⟨b,off,j,i.below hb l⟩
theorem fW:(Tryz.prog.info? 9).map (fun i=>(i.zero,i.size,i.bytes))=T (T (.string ⟨#[]⟩),1,16):=by kernel_rfl
theorem vW (f:Nat->Ins):valid f 0=QB:=by simp[valid]
theorem lP (a:Option Addr)(n cap:Nat)(f:Nat->Ins)(w:G)(hn:n<=1048576)(h:SlIns w a n f)(i:Tab w):Calls Tryz.prog 116 #[.agg #[Y a n cap]] w fun e j=>e=QF (.bool (valid f n))/\Below w.heap.size w j:=by
 rcases h with rfl | ⟨b,off,rfl,g⟩
 ·exact lN a 0 cap f w (by omega) (by simp)
 ·exact rm b off n cap f w hn g.1 g.2 i
theorem rp (a:Option Addr)(cap:Nat)(f:Nat->Ins)(w:G):Calls Tryz.prog 66 #[.agg #[Y a 0 cap]] w fun e g=>e=QF (.bool (valid f 0))/\Below w.heap.size w g:=by
 rw[vW];have b:=ae ((Below.refl w.heap.size w).alloc (Nat.le_refl _) (Q #[Y a 0 cap] 43));go_enter Tryz.func66,Tryz.ntmps66;go_wp2;go_loop [3] (fun i=>i=.int I 0) (fun _=>0);case atStart=>rfl
 case round =>subst hrel;go_wp2;go_ret;exact⟨rfl,b⟩
theorem iW (a:Option Addr)(n cap:Nat)(f:Nat->Ins)(w:G)(hn:n<=1048576)(j:SlIns w a n f)(h:∀ i,i<n->(f i).s.size<=maxLen):Calls Tryz.prog 66 #[.agg #[Y a n cap]] w fun e l=>e=QF (.bool (valid f n))/\Below w.heap.size w l:=by
 rcases j with rfl | ⟨b,off,rfl,g⟩
 ·exact rp a cap f w
 ·exact fH b off n cap f w hn g.1 g.2 h
structure Link where
 name:ByteArray
 ask:Bool
 has:Bool
 at_:Int
def AtLink (w:G)(b off i:Nat)(x:Link):Prop :=
 w.cell? (N b (off+i*4) Z)=T (.string x.name)/\w.cell? (N b (off+i*4+1) Z)=T (.bool x.ask)/\w.cell? (N b (off+i*4+2) Z)=T (.bool x.has)/\w.cell? (N b (off+i*4+3) Z)=T (.int I x.at_)
theorem AtLink.below {w g:G}{B b off i:Nat}{x:Link}(h:AtLink w b off i x)(hb:Below B w g)(f:b<B):AtLink g b off i x :=
 ⟨(hb.cell (p:=(N b _ Z)) f).trans h.1,(hb.cell (p:=(N b _ Z)) f).trans h.2.1,(hb.cell (p:=(N b _ Z)) f).trans h.2.2.1,(hb.cell (p:=(N b _ Z)) f).trans h.2.2.2⟩
def RowLink (w:G)(b off n:Nat)(f:Nat->Link):Prop:=b<w.heap.size/\∀ i,i<n->AtLink w b off i (f i)
theorem RowLink.below {w g:G}{B b off n:Nat}{f:Nat->Link}(h:RowLink w b off n f)(hb:Below B w g)(j:w.heap.size<=B):RowLink g b off n f :=
 ⟨Nat.lt_of_lt_of_le h.1 hb.size,fun i hi=>(h.2 i hi).below hb (Nat.lt_of_lt_of_le h.1 j)⟩
def SlLink (w:G)(a:Option Addr)(n:Nat)(f:Nat->Link):Prop:=n=0∨∃ b off,a=T (N b off Z)/\RowLink w b off n f
theorem SlLink.below {w g:G}{B:Nat}{a:Option Addr}{n:Nat}{f:Nat->Link}(h:SlLink w a n f)(hb:Below B w g)(l:w.heap.size<=B):SlLink g a n f:=by
 rcases h with h | ⟨b,off,j,i⟩
 ·exact .inl h
 ·exact .inr ⟨b,off,j,i.below hb l⟩
theorem nI:(Tryz.prog.info? 129).map (fun i=>(i.zero,i.size,i.bytes))=T (T (.agg #[.string ⟨#[]⟩,.bool QB,.bool QB,.int I 0]),4,32):=by kernel_rfl
structure ah where
 name:ByteArray
 kind:Int
 code:Int
 text:ByteArray
 actN:Nat
 act:Nat->Ins
 linksN:Nat
 links:Nat->Link
def gT (x:ah):Prop:=x.name.size<=maxLen/\x.text.size<=maxLen/\((x.actN:Int)<=9223372036854775807/\∀ j,j<x.actN->(x.act j).s.size<=maxLen)/\((x.linksN:Int)<=9223372036854775807/\∀ j,j<x.linksN->(x.links j).name.size<=maxLen)
def dJ (x:ah):Prop:=x.actN<=1048576/\x.linksN<=1048576
def AtDeed (w:G)(b off i:Nat)(x:ah):Prop :=
 w.cell? (N b (off+i*6) Z)=T (.string x.name)/\w.cell? (N b (off+i*6+1) Z)=T (.int I x.kind)/\w.cell? (N b (off+i*6+2) Z)=T (.int I x.code)/\w.cell? (N b (off+i*6+3) Z)=T (.string x.text)/\(∃ a cap,w.cell? (N b (off+i*6+4) Z)=T (Y a x.actN cap)/\SlIns w a x.actN x.act)/\(∃ a cap,w.cell? (N b (off+i*6+5) Z)=T (Y a x.linksN cap)/\SlLink w a x.linksN x.links)
theorem AtDeed.below {w m:G}{B b off i:Nat}{x:ah}(h:AtDeed w b off i x)(hb:Below B w m)(f:w.heap.size<=B)(g:b<w.heap.size):AtDeed m b off i x:=by obtain⟨o,n,q,r,⟨a0,j,s0,r0⟩,⟨a1,l,s1,r1⟩⟩:=h;refine⟨(hb.cell (p:=(N b _ Z)) (Nat.lt_of_lt_of_le g f)).trans o,(hb.cell (p:=(N b _ Z)) (Nat.lt_of_lt_of_le g f)).trans n,(hb.cell (p:=(N b _ Z)) (Nat.lt_of_lt_of_le g f)).trans q,(hb.cell (p:=(N b _ Z)) (Nat.lt_of_lt_of_le g f)).trans r,⟨a0,j,(hb.cell (p:=(N b _ Z)) (Nat.lt_of_lt_of_le g f)).trans s0,r0.below hb f⟩,⟨a1,l,(hb.cell (p:=(N b _ Z)) (Nat.lt_of_lt_of_le g f)).trans s1,r1.below hb f⟩⟩
def RowDeed (w:G)(b off n:Nat)(f:Nat->ah):Prop:=b<w.heap.size/\∀ i,i<n->AtDeed w b off i (f i)
theorem RowDeed.below {w g:G}{B b off n:Nat}{f:Nat->ah}(h:RowDeed w b off n f)(hb:Below B w g)(j:w.heap.size<=B):RowDeed g b off n f :=
 ⟨Nat.lt_of_lt_of_le h.1 hb.size,fun i hi=>(h.2 i hi).below hb j h.1⟩
def SlDeed (w:G)(a:Option Addr)(n:Nat)(f:Nat->ah):Prop:=n=0∨∃ b off,a=T (N b off Z)/\RowDeed w b off n f
theorem SlDeed.below {w g:G}{B:Nat}{a:Option Addr}{n:Nat}{f:Nat->ah}(h:SlDeed w a n f)(hb:Below B w g)(l:w.heap.size<=B):SlDeed g a n f:=by
 rcases h with h | ⟨b,off,j,i⟩
 ·exact .inl h
 ·exact .inr ⟨b,off,j,i.below hb l⟩
theorem gA:(Tryz.prog.info? 46).map (fun i=>(i.zero,i.size,i.bytes))=T (T (.agg #[.string ⟨#[]⟩,.int I 0,.int I 0,.string ⟨#[]⟩,Y Z 0 0,Y Z 0 0]),6,96):=by kernel_rfl
def df (n:Nat):Array QE:=madeCells (Value.agg #[.string ⟨#[]⟩,.int I 0,.int I 0,.string ⟨#[]⟩,Y Z 0 0,Y Z 0 0]).cells (n*6)
theorem DJ (n:Nat)(hn:n<=1048576)(w:G):(Instr.makeSlice 23 (.int I (n:Int)) (.int I (n:Int))).run Tryz.prog w=.ok (Y (T (N w.heap.size 0 Z)) n n) (w.alloc (Q (df n) 46)):=by obtain⟨i,hi,hz⟩:=Option.map_eq_some_iff.1 gA;simp only[Prod.mk.injEq] at hz;obtain⟨h1,h2,b⟩:=hz;have h:=run_make (P:=Tryz.prog) w 23 46 i _ Tryz.underlying23 hi h1 I I n n (by omega) (Int.le_refl _) (by rw[b];omega) (by omega);rw[h2] at h;simpa[df] using h
def dm (f:Nat->ah)(p:Nat)(l:Link):Bool :=
 au l.name && (if l.ask=QD then !l.has && decide (0<=l.at_) && decide (l.at_<(p:Int)) && ((f l.at_.toNat).name.toList == l.name.toList) else decide (l.at_=0))
def bq (f:Nat->ah)(p:Nat)(x:ah):Nat->Bool
 | 0=>QD
 | k+1=>bq f p x k && dm f p (x.links k)
def aS (x:ah):Bool:=decide (x.code=0) && decide (x.actN=0) && decide (x.linksN=0)
def bQ (f:Nat->ah)(p:Nat)(x:ah):Bool:=decide (0<=x.code) && decide (x.code<=5) && valid x.act x.actN && decide (x.linksN<=200) && bq f p x x.linksN
def kindOk (f:Nat->ah)(p:Nat)(x:ah):Bool :=
 if x.kind=1 then aS x else if x.kind=2 then aS x && decide (x.text.size=0) else if x.kind=3 then bQ f p x else QB
def aW (f:Nat->ah)(p:Nat):Bool:=au (f p).name && decide ((f p).text.size<=2000) && kindOk f p (f p)
def aH (f:Nat->ah)(p:Nat):Nat->Bool
 | 0=>QD
 | k+1=>aH f p k && !((f k).name.toList == (f p).name.toList)
def aF (g:Nat->Bool):Nat->Int
 | 0=>-1
 | k+1=>if aF g k=-1 then (if g k=QD then -1 else k) else aF g k
theorem dS {g:Nat->Bool}{n:Nat}(h:∀ i,i<n->g i=QD):aF g n=-1:=by
 induction n with
 | zero=>rfl
 | succ k b =>rw[aF,if_pos (b fun i hi=>h i (by omega)),if_pos (h k (by omega))]
theorem fx {g:Nat->Bool}{n i:Nat}(hi:i<n)(f:g i=QB)(h:∀ j,j<i->g j=QD):aF g n=i:=by
 induction n with
 | zero=>omega
 | succ k b =>
  rw[aF];by_cases e:i=k
  ·subst e
   rw[if_pos (dS h),if_neg (by rw[f];simp)]
  ·have:=b (by omega)
   rw[this,if_neg (by omega)]
theorem dZ {g:Nat->Bool}{n:Nat}(h:aF g n=-1):∀ i,i<n->g i=QD:=by
 induction n with
 | zero=>intro i hi;omega
 | succ k b =>
  rw[aF] at h;split at h
  ·rename_i h1
   intro i hi;by_cases e:i=k
   ·subst e
    cases hg:g i with
    | true=>rfl
    | false=>rw[hg] at h;simp at h
   ·exact b h1 i (by omega)
  ·rename_i h1
   exact absurd h h1
theorem kl {f:Nat->ah}{p:Nat}{x:ah}{n:Nat}(h:bq f p x n=QD):∀ i,i<n->dm f p (x.links i)=QD:=by
 induction n with
 | zero=>intro i hi;omega
 | succ k b =>
  simp only[bq,Bool.and_eq_true] at h;intro i hi;by_cases e:i=k
  ·subst e;exact h.2
  ·exact b h.1 i (by omega)
def lks (go:Nat->Nat->(Nat->Bool)->(Nat->Bool) × List (Nat × Nat))(x:ah)(d:Nat)(s:Nat->Bool):Nat->(Nat->Bool) × List (Nat × Nat)
 | 0=>(s,[])
 | j+1=>if (x.links j).ask=QD/\(lks go x d s j).1 (x.links j).at_.toNat=QB then ((go (x.links j).at_.toNat (d+1) (lks go x d s j).1).1,(lks go x d s j).2++(go (x.links j).at_.toNat (d+1) (lks go x d s j).1).2) else lks go x d s j
def put (s:Nat->Bool)(p:Nat):Nat->Bool:=fun q=>q == p || s q
def lst (f:Nat->ah):Nat->Nat->Nat->(Nat->Bool)->(Nat->Bool) × List (Nat × Nat)
 | 0,_,_,s=>(s,[])
 | k+1,p,d,s=>(put (lks (lst f k) (f p) d s (f p).linksN).1 p,(lks (lst f k) (f p) d s (f p).linksN).2++[(p,d)])
def fy (f:Nat->ah)(n:Nat):Prop:=∀ p,p<n->∀ i,i<(f p).linksN->((f p).links i).ask=QD->((f p).links i).at_.toNat<p/\0<=((f p).links i).at_
def cnt (s:Nat->Bool):Nat->Nat
 | 0=>0
 | k+1=>cnt s k+(if s k=QD then 1 else 0)
theorem DK (s:Nat->Bool)(n:Nat):cnt s n<=n:=by
 induction n with
 | zero=>simp[cnt]
 | succ k ih=>rw[cnt];split<;>omega
theorem xQ {s b:Nat->Bool}{n:Nat}(h:∀ q,q<n->s q=b q):cnt s n=cnt b n:=by
 induction n with
 | zero=>rfl
 | succ k f=>rw[cnt,cnt,f fun q hq=>h q (by omega),h k (by omega)]
theorem Cg {s:Nat->Bool}{p n:Nat}(hp:p<n)(h:s p=QB):cnt (put s p) n=cnt s n+1:=by
 induction n with
 | zero=>omega
 | succ k b =>
  rw[cnt,cnt];by_cases e:p=k
  ·subst e
   have h1:cnt (put s p) p=cnt s p:=xQ fun q hq=>by simp[put];omega
   simp[h1,put,h]
  ·have h1:put s p k=s k:=by simp[put];omega
   rw[b (by omega),h1];omega
structure Lsd (n p d:Nat)(s:Nat->Bool)(r:(Nat->Bool) × List (Nat × Nat)):Prop where
 far:∀ q,p<q->r.1 q=s q
 old:∀ q,s q=QD->r.1 q=QD
 num:cnt r.1 n=cnt s n+r.2.length
 last:∃ o,r.2=o++[(p,d)]
 le:∀ x∈r.2,x.1<=p
theorem uU {f:Nat->ah}{n k p d:Nat}{s:Nat->Bool}(t:fy f n)(o:p<n)(go:∀ q d s,q<p->s q=QB->Lsd n q d s (lst f k q d s)):∀ j,j<=(f p).linksN->(∀ q,p<=q->(lks (lst f k) (f p) d s j).1 q=s q)/\(∀ q,s q=QD->(lks (lst f k) (f p) d s j).1 q=QD)/\cnt (lks (lst f k) (f p) d s j).1 n=cnt s n+(lks (lst f k) (f p) d s j).2.length/\∀ x∈(lks (lst f k) (f p) d s j).2,x.1<p
 | 0,_=>⟨fun _ _=>rfl,fun _ h=>h,by simp[lks],by simp[lks]⟩
 | j+1,hj=>by
  obtain⟨h1,h2,m,l⟩:=uU (d:=d) (s:=s) t o go j (by omega);rw[lks];split
  ·rename_i r
   have u:=(t p o j (by omega) r.1).1;have g:=go _ (d+1) _ u r.2;refine⟨fun q i=>(g.far q (by omega)).trans (h1 q i),fun q i=>g.old q (h2 q i),?_,fun x b=>?_⟩
   ·show cnt (lst f k _ (d+1) _).1 n=_
    rw[g.num,m,List.length_append];omega
   ·rcases List.mem_append.1 b with b | b
    ·exact l x b
    ·have:=g.le x b
     omega
  ·exact⟨h1,h2,m,l⟩
theorem pH {f:Nat->ah}{n:Nat}(j:fy f n):∀ k p d s,p<k->p<n->s p=QB->Lsd n p d s (lst f k p d s)
 | 0,_,_,_,h,_,_=>absurd h (Nat.not_lt_zero _)
 | k+1,p,d,s,hk,hn,g=>by
  obtain⟨h1,h2,m,l⟩:=uU (d:=d) (s:=s) j hn (fun q d s i g=>pH j k q d s (by omega) (by omega) g) (f p).linksN (Nat.le_refl _);have o:=(h1 p (Nat.le_refl _)).trans g;refine⟨fun q i=>?_,fun q i=>?_,?_,⟨_,rfl⟩,fun x b=>?_⟩
  ·show put _ p q=s q
   rw[put,h1 q (by omega)];simp;omega
  ·show put _ p q=QD
   rw[put,h2 q i];simp
  ·show cnt (put _ p) n=_
   rw[Cg hn o,m];simp[lst,List.length_append];omega
  ·rcases List.mem_append.1 b with b | b
   ·exact Nat.le_of_lt (l x b)
   ·simp at b
    subst b;exact Nat.le_refl _
theorem uV {f:Nat->ah}{n:Nat}(i:fy f n):∀ k p d s q,p<n->p<q->lst f k p d (put s q)=(put (lst f k p d s).1 q,(lst f k p d s).2)
 | 0,_,_,_,_,_,_=>rfl
 | k+1,p,d,s,q,hn,hq=>by
  have g:∀ j,j<=(f p).linksN->lks (lst f k) (f p) d (put s q) j=(put (lks (lst f k) (f p) d s j).1 q,(lks (lst f k) (f p) d s j).2):=by
   intro j;induction j with
   | zero=>intro _;rfl
   | succ j l =>
    intro hj;have e:=l (by omega);rw[lks,lks,e];by_cases b:((f p).links j).ask=QD
    ·have ha:=(i p hn j (by omega) b).1
     have m:put (lks (lst f k) (f p) d s j).1 q ((f p).links j).at_.toNat=(lks (lst f k) (f p) d s j).1 ((f p).links j).at_.toNat:=by simp[put];omega
     simp only[m,b,true_and];split
     ·rw[uV i k _ (d+1) _ q (by omega) (by omega)]
     ·rfl
    ·rw[if_neg (fun h=>b h.1),if_neg (fun h=>b h.1)]
  have e:=g (f p).linksN (Nat.le_refl _);rw[lst,lst,e];simp only[Prod.mk.injEq,and_true];funext x;simp only[put];cases h1:x == p<;>cases h2:x == q<;>simp
def bw:Nat->List (Nat × Nat)->Int
 | _,[]=>-1
 | i,x :: xs=>if x.1=i then bw (i+1) xs else i
def aQ (f:Nat->ah):List (Nat × Nat)->Int
 | []=>-1
 | x :: xs=>if (f x.1).kind=3/\60<=x.2 then x.1 else aQ f xs
def aB (f:Nat->ah)(n:Nat):List (Nat × Nat):=(lst f n (n - 1) 0 (fun _=>QB)).2
def cH (f:Nat->ah)(n:Nat):Int × Int :=
 if n=0∨400<n then (1,0) else
 if aF (aW f) n≠-1 then (2,aF (aW f) n) else
 if aF (fun p=>aH f p p) n≠-1 then (3,aF (fun p=>aH f p p) n) else
 if bw 0 (aB f n)≠-1 then (4,bw 0 (aB f n)) else
 if aQ f (aB f n)≠-1 then (5,aQ f (aB f n)) else (0,0)
theorem gB {f:Nat->ah}{n:Nat}(h:aF (aW f) n=-1):fy f n:=by
 intro p j i hi g;have h1:=dZ h p j;simp only[aW,Bool.and_eq_true,kindOk] at h1;obtain⟨_,h2⟩:=h1;split at h2
 ·simp[aS] at h2
  omega
 ·split at h2
  ·simp[aS] at h2
   omega
  ·split at h2
   ·simp only[bQ,Bool.and_eq_true] at h2
    have b:=kl h2.2 i hi;simp only[dm,g,if_true,Bool.and_eq_true,decide_eq_true_eq] at b;omega
   ·cases h2
def lQ (x y:Ins):Bool:=x.op == y.op && x.s.toList == y.s.toList && x.n == y.n
def dv (f g:Nat->Ins):Nat->Bool
 | 0=>QD
 | k+1=>dv f g k && lQ (f k) (g k)
def fg (f g:Nat->Ins)(n m:Nat):Bool:=decide (n=m) && dv f g n
theorem oG {f g:Nat->Ins}{k n:Nat}(h:k<=n)(hn:dv f g n=QD):dv f g k=QD:=by
 induction n with
 | zero =>
  obtain rfl:k=0:=by omega
  exact hn
 | succ m b =>
  by_cases e:k=m+1
  ·subst e;exact hn
  ·simp only[dv,Bool.and_eq_true] at hn
   exact b (by omega) hn.1
theorem ue {f g:Nat->Ins}{k n:Nat}(h:k<n)(b:lQ (f k) (g k)=QB):dv f g n=QB:=by
 cases e:dv f g n with
 | false=>rfl
 | true =>have h2:=oG (show k+1<=n by omega) e;simp[dv,b] at h2
theorem xR (x:ah)(a0:Option Addr)(b:Nat)(a1:Option Addr)(f:Nat)(w:G):Calls Tryz.prog 169 #[.agg #[.string x.name,.int I x.kind,.int I x.code,.string x.text,Y a0 x.actN b,Y a1 x.linksN f]] w fun e l=>e=QF (.agg #[.bool (decide (¬ x.kind=2)),.int I x.code,.string x.text])/\Below w.heap.size w l:=by
 have j:=ae ((Below.refl w.heap.size w).alloc (Nat.le_refl _) (Q #[.string x.name,.int I x.kind,.int I x.code,.string x.text,Y a0 x.actN b,Y a1 x.linksN f] 46));obtain⟨r,g⟩:∃ r,r=decide (¬ x.kind=2):=⟨_,rfl⟩
 rw[<-g];have i:=ae g;clear g;go_enter Tryz.func169,Tryz.ntmps169;by_cases h:x.kind=2
 ·obtain rfl:r=QB:=by rw[i.out];simp[h]
  go_wp2
  exact bodyPost_ret (v:=.agg #[.bool QB,.int I x.code,.string x.text]) (by simp[results,Tryz.results169,go_sem]) rfl ⟨rfl,by
   repeat (first | exact j | exact Below.refl _ _ | refine Below.alloc ?_ (by simp<;>omega) _)⟩
 ·obtain rfl:r=QD:=by rw[i.out];simp[h]
  go_wp2
  exact bodyPost_ret (v:=.agg #[.bool QD,.int I x.code,.string x.text]) (by simp[results,Tryz.results169,go_sem,h]) rfl ⟨rfl,by
   repeat (first | exact j | exact Below.refl _ _ | refine Below.alloc ?_ (by simp<;>omega) _)⟩
def SBx (V:G)(b:Nat)(f g:QE):Prop:=V.heap[b]?=T (Q #[f,g] 29 (0,0))
theorem SBx.c0 {V:G}{b:Nat}{f g:QE}(h:SBx V b f g):V.cell? (N b 0 Z)=T f:=by have i:V.heap[b]?=T (Q #[f,g] 29 (0,0)):=h;simp[World.cell?,i]
theorem SBx.c1 {V:G}{b:Nat}{g f:QE}(h:SBx V b g f):V.cell? (N b 1 Z)=T f:=by have i:V.heap[b]?=T (Q #[g,f] 29 (0,0)):=h;simp[World.cell?,i]
theorem SBx.below {V QK:G}{b B:Nat}{f g:QE}(h:SBx V b f g)(hb:Below B V QK)(i:V.heap.size<=B):SBx QK b f g :=
 (hb.block b (Nat.lt_of_lt_of_le (ai h) i)).trans h
def AB (V:G)(b:Nat)(v:QE):Prop:=V.heap[b]?=T (Q #[v] 25 (0,0))
theorem AB.c0 {V:G}{b:Nat}{v:QE}(h:AB V b v):V.cell? (N b 0 Z)=T v:=by have f:V.heap[b]?=T (Q #[v] 25 (0,0)):=h;simp[World.cell?,f]
theorem AB.below {V QK:G}{b B:Nat}{v:QE}(h:AB V b v)(hb:Below B V QK)(f:V.heap.size<=B):AB QK b v :=
 (hb.block b (Nat.lt_of_lt_of_le (ai h) f)).trans h
theorem uf (s:ByteArray)(w:G):Calls Tryz.prog 123 #[.string s] w fun e m=>e=QF (.bool (au s))/\m=w:=by
 by_cases h1:1<=(s.size:Int)
 ·by_cases h2:(s.size:Int)<=60
  ·have h:Hid (au s=cV s s.size):=by
    show au s=cV s s.size;unfold au;rw[show decide (1<=s.size/\s.size<=60)=QD by simp;omega,Bool.true_and]
   go_enter Tryz.func123,Tryz.ntmps123;go_wp2;go_loopw [14] (fun i wr=>∃ k:Nat,k<=s.size/\i=.int I k/\cV s k=QD/\wr=w) (fun i _=>s.size - (intOf i).toNat);case atStart=>exact⟨0,by omega,rfl,rfl,rfl⟩
   case round =>
    obtain⟨k,hk,rfl,g,j⟩:=hrel;have f:=ae j;have l:=ae g;clear j g;by_cases b:k<s.size
    ·by_cases p1:33<=(s[k].toNat:Int)
     ·by_cases p2:(s[k].toNat:Int)<=126
      ·go_wp2
       exact⟨⟨k+1,by omega,by go_num,by rw[gJ b,l.out];simp;omega,f⟩,by simp[intOf];omega⟩
      ·go_wp2
       go_ret;exact⟨bo (by rw[h.out,eA b (by omega)]),f⟩
     ·go_wp2
      go_ret;exact⟨bo (by rw[h.out,eA b (by omega)]),f⟩
    ·have e:k=s.size:=by omega
     subst e;go_wp2;go_ret;exact⟨bo (by rw[h.out,l.out]),f.out⟩
  ·have e:au s=QB:=by
    unfold au;rw[show decide (1<=s.size/\s.size<=60)=QB by simp;omega,Bool.false_and]
   rw[e];clear e;go_enter Tryz.func123,Tryz.ntmps123;go_wp2;go_ret;exact⟨rfl,rfl⟩
 ·have e:au s=QB:=by
   unfold au;rw[show decide (1<=s.size/\s.size<=60)=QB by simp;omega,Bool.false_and]
  rw[e];clear e;go_enter Tryz.func123,Tryz.ntmps123;go_wp2;go_ret;exact⟨rfl,rfl⟩
end Go.Proofs.YtamacmnikdejeaaGreatDoor.Vp
