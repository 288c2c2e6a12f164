import Derived.Test.YtamacmnikdejeaaGreatDoorProg
import Derived.WalkKit
import Derived.WalkSpells
import Derived.WalkLawsBesides
import Derived.Deep.OwnRows
import Derived.Deep.RegionWith
import Derived.Deep.QuietTactic
import Derived.BigQuiet
set_option maxHeartbeats 1000000
open Go.Addr renaming mk->T
open Go.Value renaming slice->Y,string->U,int->I,bool->QT,agg->QV
open Option renaming none->Z,some->N
open Go.Obj renaming cells->Q
open Go.IntKind renaming i64->J
open Go renaming World->H,Value->QS
open Bool renaming false->QQ,true->QR
open Go.Ending renaming returned->QU
namespace Go.Proofs.YtamacmnikdejeaaGreatDoor.Vp
open RowKit
theorem lj {a b c:Nat}(h:a<b)(g:b<=c):a<c:=Nat.lt_of_lt_of_le h g
theorem q9 (w:H):Below w.heap.size w w:=Below.refl _ _
theorem br {B:Nat}{w:H}:Below B w w:=Below.refl _ _
abbrev sq:=@World.cell?_setCell_other
abbrev qh:=@Below.heap_setCell
abbrev bp:=@bodyPost_ret
abbrev gq:=@List.getElem?_eq_getElem
abbrev cj:=@World.cell?_of_block
abbrev bg:=@Below.grown
abbrev gj:=@List.getElem_mem
abbrev nj:=@List.not_mem_nil
abbrev mz:=@List.mem_cons_of_mem
abbrev a8:=@List.length_append
abbrev cM:=@heap_alloc_new
abbrev eI:=@if_neg
abbrev eL:=@Below.refl
abbrev eT:=@List.mem_singleton
abbrev gA:=@if_pos
abbrev gB:=@Bool.and_eq_true
abbrev gM:=@List.getElem?_eq_some_iff
abbrev hU:=@List.mem_append
abbrev j2:=@Nat.lt_succ_self
abbrev j4:=@Nat.le_trans
abbrev j5:=@Nat.le_refl
abbrev j6:=@IntKind.wrap_i64
abbrev kP:=@decide_eq_true_eq
abbrev nD:=@List.mem_cons
abbrev nL:=@Int.eq_ofNat_of_zero_le
abbrev nX:=@Array.getElem?_eq_some_iff
abbrev p7:=@World.cell?_setCell_same'
abbrev p8:=@List.getElem?_append_right
abbrev p9:=@List.length_singleton
abbrev vF:=@Nat.le_succ
abbrev vG:=@Nat.lt_of_lt_of_le
abbrev wC:=@wpList_append_own
abbrev z8:=@List.length_cons
abbrev AI:=@Nat.zero_le
abbrev BO:=@List.getD_eq_getElem?_getD
abbrev CP:=@World.ownsRow_nil
abbrev CV:=@List.map_append
abbrev DC:=@List.pairwise_iff_getElem
abbrev DN:=@Nat.zero_add
abbrev D0:=@ByteArray.toList_eq
abbrev ES:=@Option.some.inj
abbrev F6:=@below_drewN
abbrev HH:=@List.flatMap_append
abbrev H7:=@List.mem_range
abbrev IF:=@List.mem_of_getElem?
abbrev IH:=@List.getElem?_append_left
abbrev IN:=@List.getElem?_map
abbrev IS:=@List.length_nil
abbrev IT:=@Prod.mk.injEq
abbrev I5:=@Value.slice.injEq
abbrev JK:=@List.mem_append_left
abbrev JL:=@Option.some.injEq
abbrev JM:=@List.append_assoc
abbrev JN:=@congrArg
abbrev JO:=@List.length_set
abbrev JP:=@Nat.not_lt_zero
abbrev JQ:=@List.mem_map
abbrev JR:=@Array.getElem?_modify
abbrev JS:=@List.length_pos_iff
abbrev JT:=@List.nil_append
abbrev JU:=@List.flatMap_cons
abbrev JV:=@info_parts
abbrev JW:=@World.frozen?_of_block
abbrev JX:=@decide_eq_false_iff_not
abbrev JY:=@List.length_take
abbrev JZ:=@List.length_drop
abbrev J0:=@Array.getElem?_toList
abbrev J2:=@List.getElem?_eq_none
abbrev J4:=@List.mem_append_right
abbrev J5:=@MapKept.heap_alloc
abbrev J6:=@List.take_of_length_le
abbrev J7:=@List.mem_or_eq_of_mem_set
abbrev J8:=@of_decide_eq_true
abbrev J9:=@World.ownsRow_made
abbrev KH:=@List.cons_append
abbrev KI:=@Classical.byContradiction
abbrev KJ:=@Nat.add_zero
abbrev KL:=@List.getElem?_set_self
abbrev KN:=@Bool.eq_iff_iff
abbrev KO:=@List.length_map
abbrev KP:=@Nat.lt_or_ge
abbrev KQ:=@List.pairwise_cons
abbrev KT:=@List.pairwise_append
abbrev KU:=@List.getElem?_of_mem
abbrev KV:=@List.range_succ
abbrev KZ:=@ByteArray.size_append
abbrev LA:=@Bool.true_and
abbrev LB:=@Int.tmod_eq_emod_of_nonneg
abbrev LC:=@List.size_toArray
abbrev LD:=@Bool.not_eq_false
abbrev LE:=@Nat.min_eq_left
abbrev LH:=@heap_alloc2_new
abbrev LI:=@List.findIdx?_eq_none_iff
abbrev LJ:=@List.take_append_drop
abbrev LK:=@Below.heap_setCell
abbrev LM:=@List.any_eq_true
abbrev LN:=@List.mem_flatMap
abbrev LP:=@Bool.and_true
abbrev LQ:=@Nat.lt_succ_iff_lt_or_eq
abbrev LU:=@List.mem_of_mem_take
abbrev LV:=@Array.replicate_succ
abbrev LX:=@Array.replicate_zero
abbrev LZ:=@List.getElem?_set_ne
abbrev L8:=@List.append_nil
abbrev L9:=@Array.length_toList
abbrev MA:=@or_false
abbrev MB:=@List.append_toArray
abbrev MC:=@List.mem_map_of_mem
abbrev MD:=@Array.getElem?_eq_none
abbrev MG:=@Option.map_eq_some_iff
abbrev MH:=@beq_self_eq_true
abbrev MI:=@heap_alloc_old
abbrev MJ:=@Array.toList_setIfInBounds
abbrev MK:=@List.length_filter_le
abbrev ML:=@List.length_replicate
abbrev MM:=@List.findIdx?_eq_some_iff_getElem
abbrev MN:=@List.mem_filter
abbrev MO:=@Maps.string_keyed
abbrev MP:=@List.push_toArray
abbrev MQ:=@WideMaps.keyOf_string_mk
abbrev MR:=@List.take_append_getElem
abbrev MU:=@List.getElem_of_mem
abbrev MV:=@Array.eq_empty_of_size_eq_zero
abbrev MW:=@Bool.false_and
abbrev MX:=@List.lt_irrefl
abbrev MY:=@List.getElem?_cons_succ
abbrev MZ:=@Bool.not_eq_true
abbrev M2:=@List.getElem_map
abbrev M5:=@List.filter_append
abbrev NA:=@Maps.has_put_other
abbrev NB:=@List.mem_cons_self
abbrev ND:=@List.find?_eq_none
abbrev NE:=@Nat.sub_self
abbrev NF:=@Value.slice.inj
abbrev NG:=@Addr.mk.injEq
abbrev NH:=@Sum.inl.injEq
abbrev NI:=@List.set_append_right
abbrev NJ:=@List.countP_mono_left
abbrev NK:=@List.countP_le_length
abbrev NL:=@List.take_add_one
abbrev NM:=@List.ext_getElem?
abbrev NN:=@World.cell?_of_block
abbrev NO:=@Nat.mod_lt
abbrev NP:=@List.mem_iff_getElem
abbrev NQ:=@wpList_mapUpdate_own
abbrev NR:=@List.cons_ne_nil
abbrev NS:=@List.flatMap_map
abbrev NT:=@List.set_set
abbrev NU:=@List.drop_eq_getElem_cons
abbrev NV:=@List.map_cons
abbrev NW:=@Nat.add_assoc
abbrev NY:=@beq_iff_eq
abbrev NZ:=@List.getElem?_take
abbrev N5:=@World.ownsMap_made
abbrev N9:=@List.set_cons_succ
abbrev OB:=@Bool.not_eq_false'
abbrev OD:=@World.block_lt_of_cell?
abbrev OH:=@List.getElem?_cons_zero
abbrev OJ:=@List.length_eq_zero_iff
abbrev ON:=@Nat.lt_of_succ_lt
abbrev OP:=@wpList_plain
abbrev OR:=@run_convert_bytes_back
abbrev OT:=@Nat.zero_mul
abbrev OU:=@Maps.has_put_same
abbrev PC:=@if_false
abbrev PD:=@List.getElem_drop
abbrev PE:=@UInt8.not_lt
abbrev PF:=@World.frozen?_setCell
abbrev PH:=@ownsRow_setCell_other
abbrev PI:=@ownsRow_setCell_below
abbrev PJ:=@Nat.le_of_ble_eq_true
abbrev PK:=@List.not_mem_nil
abbrev PL:=@List.ext_getElem
abbrev PO:=@ByteArray.ext
abbrev PQ:=@List.all_cons
abbrev PR:=@true_and
abbrev PS:=@List.set_append_left
abbrev PT:=@Bool.or_eq_false_iff
abbrev PU:=@List.mem_of_mem_drop
abbrev PV:=@Option.map_some
abbrev PX:=@IntKind.wrap_u8
abbrev P3:=@List.prefix_rfl
abbrev QB:=@beq_eq_false_iff_ne
abbrev QC:=@List.dropWhile_cons
abbrev QD:=@Nat.le_of_lt
abbrev QE:=@if_true
abbrev QF:=@List.map_nil
abbrev QG:=@Bool.or_true
abbrev QH:=@callsIn_wide
abbrev QI:=@List.all_nil
abbrev QJ:=@decide_eq_true
abbrev QK:=@of_decide_eq_false
abbrev QL:=@Lib.frozen_of_heap
abbrev QM:=@List.prefix_append
abbrev QN:=@run_makeMap
abbrev QO:=@List.take_set
abbrev QP:=@callsIn_of_wp
theorem ly {n:Nat}:n<=n:=Nat.le_refl n
theorem ae {p:Prop}(h:p):Hid p:=h
theorem nzL {c:Type}:(∀ (l:List c) (i:Nat) (a:c),l.toArray.setIfInBounds i a=(l.set i a).toArray)/\(∀ (a b:c) (l:List c),(a :: l).set 0 b=b :: l)/\∀ (a b:c) (l:List c) (i:Nat),(a :: l).set (i+1) b=a :: l.set i b :=
 ⟨fun _ _ _=>List.setIfInBounds_toArray ..,fun _ _ _=>rfl,fun _ _ _ _=>rfl⟩
theorem Gl {W c:H}(hb:Below W.heap.size W c):(∀ b o,b<W.heap.size->c.cell? (T b o Z)=W.cell? (T b o Z))/\(∀ b o,b<W.heap.size->c.frozen? (T b o Z)=W.frozen? (T b o Z)) :=
 ⟨fun b o h=>hb.cell (p:=(T b o Z)) h,fun b o h=>hb.frozen (p:=(T b o Z)) h⟩
theorem cell_far (w:H)(p a:Addr)(v:QS)(h:p.block≠a.block):(w.setCell p v).cell? a=w.cell? a :=
 World.cell?_of_block (w:=w) (a:=a) (Below.heap_setCell w p v a.block (fun e=>h e.symm))
theorem bm {a b:Bool}(h:a=b):Ending.returned (QT a)=QU (QT b):=by rw[h]
theorem ny {a b:ByteArray}(h:a=b):Ending.returned (U a)=QU (U b):=by rw[h]
theorem rX {s:ByteArray}(h:s.size=0):s=⟨#[]⟩:=by obtain⟨a⟩:=s;have:a.size=0:=h;rw[Array.eq_empty_of_size_eq_zero this]
theorem yU {s:ByteArray}(h:¬ s.size=0):¬ s.toList=[]:=by
 intro e;have h2:s.toList.length=s.size:=by rw[ByteArray.toList_eq];rfl
 rw[e] at h2;simp at h2;omega
structure Ins where
 op:Int
 s:ByteArray
 n:Int
def AtIns (w:H)(b off i:Nat)(x:Ins):Prop :=
 w.cell? (T b (off+i*3) Z)=N (I J x.op)/\w.cell? (T b (off+i*3+1) Z)=N (U x.s)/\w.cell? (T b (off+i*3+2) Z)=N (I J x.n)
theorem AtIns.below {w f:H}{B b off i:Nat}{x:Ins}(h:AtIns w b off i x)(hb:Below B w f)(c:b<B):AtIns f b off i x :=
 ⟨(hb.cell (p:=(T b _ Z)) c).trans h.1,(hb.cell (p:=(T b _ Z)) c).trans h.2.1,(hb.cell (p:=(T b _ Z)) c).trans h.2.2⟩
def RowIns (w:H)(b off n:Nat)(f:Nat->Ins):Prop:=b<w.heap.size/\∀ i,i<n->AtIns w b off i (f i)
theorem RowIns.below {w c:H}{B b off n:Nat}{f:Nat->Ins}(h:RowIns w b off n f)(hb:Below B w c)(g:w.heap.size<=B):RowIns c b off n f :=
 ⟨Nat.lt_of_lt_of_le h.1 hb.size,fun i hi=>(h.2 i hi).below hb (Nat.lt_of_lt_of_le h.1 g)⟩
theorem RowIns.setOther {w:H}{g n off:Nat}{f:Nat->Ins}(h:RowIns w g off n f)(p:Addr)(b:p.block≠g)(v:QS):RowIns (w.setCell p v) g off n f:=by refine⟨by simpa using h.1,fun i hi=>?_⟩;have h:=h.2 i hi;have far:∀ o,(w.setCell p v).cell? (T g o Z)=w.cell? (T g o Z):=fun o=>World.cell?_of_block (w:=w) (a:=(T g o Z)) (Below.heap_setCell w p v g (fun e=>b e.symm));exact⟨(far _).trans h.1,(far _).trans h.2.1,(far _).trans h.2.2⟩
def SlIns (w:H)(a:Option Addr)(n:Nat)(f:Nat->Ins):Prop:=n=0∨∃ b off,a=N (T b off Z)/\RowIns w b off n f
theorem SlIns.below {w c:H}{B:Nat}{a:Option Addr}{n:Nat}{f:Nat->Ins}(h:SlIns w a n f)(hb:Below B w c)(j:w.heap.size<=B):SlIns c a n f:=by
 rcases h with h | ⟨b,off,g,i⟩
 ·exact .inl h
 ·exact .inr ⟨b,off,g,i.below hb j⟩
theorem RowIns.sl {w:H}{b off n:Nat}{f:Nat->Ins}(h:RowIns w b off n f):SlIns w (N (T b off Z)) n f:=.inr ⟨b,off,rfl,h⟩
theorem qj:(Tryz.prog.info? 146).map (fun i=>(i.zero,i.size,i.bytes))=N (N (QV #[I J 0,U ⟨#[]⟩,I J 0]),3,32):=by kernel_rfl
def kind:Int->Int
 | 1=>1 | 3=>2 | 4=>2 | 5=>2 | 10=>3 | 11=>3 | _=>0
def bW (op:Int):Int:=if op=1 then 2000 else 0
def fg (op:Int):Int:=if op=3∨op=4∨op=5 then 2000 else if op=10∨op=11 then 200 else 0
def cK (op:Int)(sz:Nat)(n:Int):Bool:=decide (1<=op/\op<=15/\(sz:Int)<=bW op/\0<=n/\n<=fg op)
theorem wY (op:Int)(s:ByteArray)(n:Int)(w:H)(b:s.size<=maxLen)(hz:¬ s.toList=[])(h0:0<s.size):Calls Tryz.prog 104 #[QV #[I J op,U s,I J n]] w fun e f=>e=QU (QT (cK op s.size n))/\Below w.heap.size w f:=by
 unfold maxLen at b;by_cases h:1<=op/\op<=15
 ·have c:op=1∨op=2∨op=3∨op=4∨op=5∨op=6∨op=7∨op=8∨op=9∨op=10∨op=11∨op=12∨op=13∨op=14∨op=15:=by omega
  clear h;rcases c with rfl | rfl | rfl | rfl | rfl | rfl | rfl | rfl | rfl | rfl | rfl | rfl | rfl | rfl | rfl;all_goals
   go_enter Tryz.func104,Tryz.ntmps104;go_wp2;all_goals go_ret
   all_goals refine⟨bm ?_,(Below.refl _ _).alloc (Nat.le_refl _) _⟩
   all_goals (rw[Bool.eq_iff_iff];generalize s.size=z at *;simp[cK,bW,fg];try omega)
 ·rcases(show op<1∨15<op by omega) with h | h
  all_goals
   go_enter Tryz.func104,Tryz.ntmps104;go_wp2;go_ret;refine⟨bm ?_,(Below.refl _ _).alloc (Nat.le_refl _) _⟩;rw[Bool.eq_iff_iff];simp[cK];omega
theorem wZ (op:Int)(n:Int)(w:H):Calls Tryz.prog 104 #[QV #[I J op,U ⟨#[]⟩,I J n]] w fun e b=>e=QU (QT (cK op 0 n))/\Below w.heap.size w b:=by
 by_cases h:1<=op/\op<=15
 ·have c:op=1∨op=2∨op=3∨op=4∨op=5∨op=6∨op=7∨op=8∨op=9∨op=10∨op=11∨op=12∨op=13∨op=14∨op=15:=by omega
  clear h;rcases c with rfl | rfl | rfl | rfl | rfl | rfl | rfl | rfl | rfl | rfl | rfl | rfl | rfl | rfl | rfl;all_goals
   go_enter Tryz.func104,Tryz.ntmps104;go_wp2;all_goals go_ret
   all_goals refine⟨bm ?_,(Below.refl _ _).alloc (Nat.le_refl _) _⟩
   all_goals (rw[Bool.eq_iff_iff];simp[cK,bW,fg];try omega)
 ·rcases(show op<1∨15<op by omega) with h | h
  all_goals
   go_enter Tryz.func104,Tryz.ntmps104;go_wp2;go_ret;refine⟨bm ?_,(Below.refl _ _).alloc (Nat.le_refl _) _⟩;rw[Bool.eq_iff_iff];simp[cK];omega
theorem uO (op:Int)(s:ByteArray)(n:Int)(w:H)(b:s.size<=maxLen):Calls Tryz.prog 104 #[QV #[I J op,U s,I J n]] w fun e c=>e=QU (QT (cK op s.size n))/\Below w.heap.size w c:=by
 by_cases h:s.size=0
 ·have e:=rX h
  subst e;exact wZ op n w
 ·exact wY op s n w b (yU h) (by omega)
theorem xd (k:Nat)(s:ByteArray)(n b c:Int)(w:H)(h1:1<=(k:Int))(h2:(k:Int)<=15)
  (hT:w.cell? (T 0 (k*5+1) Z)=N (I J b)) (hN:w.cell? (T 0 (k*5+2) Z)=N (I J c)) (hz:0<w.heap.size)
  (ht:(s.size:Int)<=b) (hn:0<=n) :
  Calls Tryz.prog 153 #[QV #[I J k,U s,I J n]] w fun e f=>e=QU (QT (decide (n<=c)))/\Below w.heap.size w f:=by
 go_enter Tryz.func153,Tryz.ntmps153;go_wp2;go_quiet (fail);go_wp2;go_ret;exact⟨rfl,below_drewN ((Below.refl _ _).alloc (Nat.le_refl _) _) _⟩
theorem xe (k:Nat)(s:ByteArray)(n b:Int)(w:H)(h1:1<=(k:Int))(h2:(k:Int)<=15)
  (hT:w.cell? (T 0 (k*5+1) Z)=N (I J b)) (hz:0<w.heap.size)
  (ht:(s.size:Int)<=b) (hn:n<0) :
  Calls Tryz.prog 153 #[QV #[I J k,U s,I J n]] w fun e c=>e=QU (QT QQ)/\Below w.heap.size w c:=by
 have hd:decide (0<=n)=QQ:=by simp;omega
 go_enter Tryz.func153,Tryz.ntmps153;go_wp2;go_quiet (fail);go_wp2;go_ret;exact⟨rfl,below_drewN ((Below.refl _ _).alloc (Nat.le_refl _) _) _⟩
theorem xg (k:Nat)(s:ByteArray)(n b:Int)(w:H)(h1:1<=(k:Int))(h2:(k:Int)<=15)
  (hT:w.cell? (T 0 (k*5+1) Z)=N (I J b)) (hz:0<w.heap.size)
  (ht:b<(s.size:Int)) :
  Calls Tryz.prog 153 #[QV #[I J k,U s,I J n]] w fun e c=>e=QU (QT QQ)/\Below w.heap.size w c:=by
 have hd:decide ((s.size:Int)<=b)=QQ:=by simp;omega
 go_enter Tryz.func153,Tryz.ntmps153;go_wp2;go_quiet (fail);go_wp2;go_ret;exact⟨rfl,below_drewN ((Below.refl _ _).alloc (Nat.le_refl _) _) _⟩
theorem xh (op:Int)(s:ByteArray)(n:Int)(w:H)(h:op<1∨15<op):Calls Tryz.prog 153 #[QV #[I J op,U s,I J n]] w fun e b=>e=QU (QT QQ)/\Below w.heap.size w b:=by
 rcases h with h | h;all_goals
  go_enter Tryz.func153,Tryz.ntmps153;go_wp2;go_ret;exact⟨rfl,(Below.refl _ _).alloc (Nat.le_refl _) _⟩
def Tab (w:H):Prop:=0<w.heap.size/\∀ k:Nat,k<16->w.cell? (T 0 (k*5+1) Z)=N (I J (bW k))/\w.cell? (T 0 (k*5+2) Z)=N (I J (fg k))
theorem sG (op:Int)(s:ByteArray)(n:Int)(w:H)(b:Tab w):Calls Tryz.prog 153 #[QV #[I J op,U s,I J n]] w fun e j=>e=QU (QT (cK op s.size n))/\Below w.heap.size w j:=by
 by_cases h:1<=op/\op<=15
 ·obtain⟨k,rfl⟩:=Int.eq_ofNat_of_zero_le (show 0<=op by omega)
  obtain⟨h1,h2⟩:=h;obtain⟨f,i⟩:=b.2 k (by omega);by_cases c:(s.size:Int)<=bW k
  ·by_cases hn:0<=n
   ·have e:cK (k:Int) s.size n=decide (n<=fg k):=by
     unfold cK;rw[Bool.eq_iff_iff,decide_eq_true_eq,decide_eq_true_eq];exact⟨fun h=>h.2.2.2.2,fun h=>⟨h1,h2,c,hn,h⟩⟩
    rw[e];exact xd k s n _ _ w h1 h2 f i b.1 c hn
   ·have e:cK (k:Int) s.size n=QQ:=by
     unfold cK;rw[decide_eq_false_iff_not];exact fun h=>hn h.2.2.2.1
    rw[e];exact xe k s n _ w h1 h2 f b.1 c (by omega)
  ·have e:cK (k:Int) s.size n=QQ:=by
    unfold cK;rw[decide_eq_false_iff_not];exact fun h=>c h.2.2.1
   rw[e];exact xg k s n _ w h1 h2 f b.1 (by omega)
 ·have e:cK op s.size n=QQ:=by
   unfold cK;rw[decide_eq_false_iff_not];exact fun g=>h ⟨g.1,g.2.1⟩
  rw[e];exact xh op s n w (by omega)
def dT (f:Nat->Ins):Nat->Bool
 | 0=>QR
 | k+1=>dT f k && cK (f k).op (f k).s.size (f k).n
theorem qU {f:Nat->Ins}{k n:Nat}(h:k<=n)(hn:dT f n=QR):dT f k=QR:=by
 induction n with
 | zero =>
  obtain rfl:k=0:=by omega
  exact hn
 | succ m b =>
  by_cases e:k=m+1
  ·subst e;exact hn
  ·simp only[dT,Bool.and_eq_true] at hn
   exact b (by omega) hn.1
theorem o8 {f:Nat->Ins}{k n:Nat}(h:k<n)(b:cK (f k).op (f k).s.size (f k).n=QQ):dT f n=QQ:=by
 cases e:dT f n with
 | false=>rfl
 | true =>have h2:=qU (show k+1<=n by omega) e;simp[dT,b] at h2
def valid (f:Nat->Ins)(n:Nat):Bool:=dT f n && decide (1<=(n:Int)/\(n:Int)<=200)
theorem cJ {f:Nat->Ins}{n:Nat}(h:valid f n=QR):dT f n=QR/\1<=(n:Int)/\(n:Int)<=200:=by unfold valid at h;rw[Bool.and_eq_true,decide_eq_true_eq] at h;exact h
theorem nA {f:Nat->Ins}{k n:Nat}(h:dT f n=QR)(hk:k<n):cK (f k).op (f k).s.size (f k).n=QR:=by have:=qU (show k+1<=n by omega) h;simp only[dT,Bool.and_eq_true] at this;exact this.2
theorem fY (b off n cap:Nat)(f:Nat->Ins)(w:H)(hn:n<=1048576)(hb:b<w.heap.size)(x:∀ i,i<n->AtIns w b off i (f i))(q:∀ i,i<n->(f i).s.size<=maxLen):Calls Tryz.prog 66 #[QV #[Y (N (T b off Z)) n cap]] w fun e u=>e=QU (QT (valid f n))/\Below w.heap.size w u:=by
 have B:=ae x;have z:=ae q;clear x q;go_enter Tryz.func66,Tryz.ntmps66;go_wp2;go_loopw [3] (fun i wr=>∃ k:Nat,k<=n/\i=I J k/\dT f k=QR/\Below (w.heap.size+1) (w.alloc (Q #[Y (N (T b off Z)) n cap] 43)) wr) (fun i _=>n - (intOf i).toNat);case atStart=>exact⟨0,by omega,rfl,rfl,Below.refl _ _⟩
 case round =>
  obtain⟨k,hk,rfl,j,g⟩:=hrel;have A:=ae g;have y:=ae j;have t:wr.cell? (T w.heap.size 0 Z)=N (Y (N (T b off Z)) n cap):=by rw[g.cell (p:=(T w.heap.size 0 Z)) (by simp)];simp
  have h:Hid (Below w.heap.size w wr):=((Below.refl _ _).alloc (Nat.le_refl _) _).trans (g.mono (by omega));have r:w.heap.size+1<=wr.heap.size:=by have:=g.size;simpa using this
  clear g j;by_cases c:k<n
  ·obtain⟨c0,c1,c2⟩:=(B k c).below h hb
   go_wp2_with fail;refine(uO _ _ _ _ (z k c)).mono ?_;rintro e u ⟨rfl,l⟩;have m:=ae l;clear l c0 c1 c2 t;cases hi:cK (f k).op (f k).s.size (f k).n with
   | false =>have o:=ae hi;clear hi;go_wp2;go_ret;refine⟨bm ?_,h.trans (m.mono h.size)⟩;simp[valid,o8 c o.out]
   | true =>have o:=ae hi;clear hi;go_wp2;exact⟨⟨k+1,by omega,by go_num,by simp[dT,y.out,o.out],A.trans (m.mono r)⟩,by simp[intOf];omega⟩
  ·have e:k=n:=by omega
   subst e;by_cases h1:1<=(k:Int)
   all_goals
    go_wp2;go_ret;refine⟨bm ?_,h⟩;rw[Bool.eq_iff_iff];simp[valid,y.out];try omega
theorem Tab.below {w c:H}{B:Nat}(h:Tab w)(hb:Below B w c)(b:0<B):Tab c :=
 ⟨Nat.lt_of_lt_of_le h.1 hb.size,fun k f=>⟨(hb.cell (p:=(T 0 _ Z)) b).trans (h.2 k f).1,(hb.cell (p:=(T 0 _ Z)) b).trans (h.2 k f).2⟩⟩
theorem mF (a:Option Addr)(n cap:Nat)(f:Nat->Ins)(w:H)(hn:n<=1048576)(h:(n:Int)<1∨200<(n:Int)):Calls Tryz.prog 116 #[QV #[Y a n cap]] w fun e b=>e=QU (QT (valid f n))/\Below w.heap.size w b:=by
 have e:valid f n=QQ:=by unfold valid;rw[show decide (1<=(n:Int)/\(n:Int)<=200)=QQ by simp;omega,Bool.and_false]
 rw[e];clear e;rcases h with h | h;all_goals
  go_enter Tryz.func116,Tryz.ntmps116;go_wp2;go_ret;exact⟨rfl,(Below.refl _ _).alloc (Nat.le_refl _) _⟩
theorem rY (b off n cap:Nat)(f:Nat->Ins)(w:H)(h1:1<=(n:Int))(h2:(n:Int)<=200)(hb:b<w.heap.size)(x:∀ i,i<n->AtIns w b off i (f i))(p:Tab w):Calls Tryz.prog 116 #[QV #[Y (N (T b off Z)) n cap]] w fun e r=>e=QU (QT (valid f n))/\Below w.heap.size w r:=by
 have A:=ae x;have z:=ae p;have y:=p.1;have u:Hid (valid f n=dT f n):=by show valid f n=dT f n;unfold valid;rw[show decide (1<=(n:Int)/\(n:Int)<=200)=QR by simp;omega,Bool.and_true]
 clear x p;go_enter Tryz.func116,Tryz.ntmps116;go_wp2;go_loopw [18] (fun i wr=>∃ k:Nat,k<=n/\i=I J k/\dT f k=QR/\Below w.heap.size w wr) (fun i _=>n - (intOf i).toNat);case atStart=>exact⟨0,by omega,rfl,rfl,(Below.refl _ _).alloc (Nat.le_refl _) _⟩
 case round =>
  obtain⟨k,hk,rfl,g,q⟩:=hrel;have c:=ae q;have t:=ae g;have h:w.heap.size<=wr.heap.size:=q.size;clear q g;by_cases l:k<n
  ·obtain⟨c0,c1,c2⟩:=(A k l).below c hb
   go_wp2_with fail;refine(sG _ _ _ _ (z.below (c.alloc h _) y)).mono ?_;rintro e r ⟨rfl,j⟩;have m:Hid (Below w.heap.size w r):=(c.alloc h _).trans (j.mono (by simp;omega));clear j c0 c1 c2;cases hi:cK (f k).op (f k).s.size (f k).n with
   | false =>have o:=ae hi;clear hi;go_wp2;go_ret;refine⟨bm ?_,m⟩;rw[u.out,o8 l o.out]
   | true =>have o:=ae hi;clear hi;go_wp2;exact⟨⟨k+1,by omega,by go_num,by simp[dT,t.out,o.out],m⟩,by simp[intOf];omega⟩
  ·have e:k=n:=by omega
   subst e;go_wp2;go_ret;exact⟨bm (by rw[u.out,t.out]),c.out⟩
theorem rZ (b off n cap:Nat)(f:Nat->Ins)(w:H)(hn:n<=1048576)(hb:b<w.heap.size)(j:∀ i,i<n->AtIns w b off i (f i))(c:Tab w):Calls Tryz.prog 116 #[QV #[Y (N (T b off Z)) n cap]] w fun e g=>e=QU (QT (valid f n))/\Below w.heap.size w g:=by
 by_cases h:(n:Int)<1∨200<(n:Int)
 ·exact mF _ n cap f w hn h
 ·exact rY b off n cap f w (by omega) (by omega) hb j c
structure Only (b:Nat)(w w':H):Prop where
 os:w'.os=w.os
 tape:w'.tape=w.tape
 output:w'.output=w.output
 size:w.heap.size<=w'.heap.size
 block:∀ k,k<w.heap.size->k≠b->w'.heap[k]?=w.heap[k]?
 ty:∀ cs t fz,w.heap[b]?=N (Q cs t fz)->∃ cs',w'.heap[b]?=N (Q cs' t fz)
theorem Only.refl (b:Nat)(w:H):Only b w w:=⟨rfl,rfl,rfl,Nat.le_refl _,fun _ _ _=>rfl,fun c _ _ h=>⟨c,h⟩⟩
theorem ai {w:H}{i:Nat}{o:Obj}(h:w.heap[i]?=N o):i<w.heap.size:=by
 rcases Nat.lt_or_ge i w.heap.size with b | b
 ·exact b
 ·rw[Array.getElem?_eq_none b] at h;cases h
theorem bM {w:H}{b j:Nat}{c:Array QS}{t:TypeId}{fz:Nat × Nat}(h:w.heap[b]?=N (Q c t fz))(v:QS):(w.setCell (T b j Z) v).heap[b]?=N (Q (c.setIfInBounds j v) t fz):=by simp only[World.setCell,Array.getElem?_modify,if_pos,h,Option.map_some];rfl
theorem Only.trans {b:Nat}{u v w:H}(h:Only b u v)(k:Only b v w):Only b u w :=
 ⟨k.os.trans h.os,k.tape.trans h.tape,k.output.trans h.output,Nat.le_trans h.size k.size,fun i hi c=>(k.block i (Nat.lt_of_lt_of_le hi h.size) c).trans (h.block i hi c),fun f t fz hb=>let ⟨cs1,h1⟩:=h.ty f t fz hb;k.ty cs1 t fz h1⟩
theorem Only.of_below {b:Nat}{w c:H}(h:Below w.heap.size w c):Only b w c:=⟨h.os,h.tape,h.output,h.size,fun i hi _=>h.block i hi,fun f _ _ hb=>⟨f,(h.block b (ai hb)).trans hb⟩⟩
theorem Only.below {b B:Nat}{w c:H}(h:Only b w c)(hB:B<=b)(hw:B<=w.heap.size):Below B w c:=⟨h.os,h.tape,h.output,h.size,fun k hk=>h.block k (by omega) (by omega)⟩
theorem Only.cell {b:Nat}{w c:H}(h:Only b w c)(k o:Nat)(f:k<w.heap.size)(hb:k≠b):c.cell? (T k o Z)=w.cell? (T k o Z):=World.cell?_of_block (w:=w) (a:=(T k o Z)) (h.block k f hb)
theorem gu {a w:H}{b:Nat}(h:Only b a w)(j:Nat)(v:QS):Only b a (w.setCell (T b j Z) v) :=
 h.trans ⟨rfl,rfl,rfl,by simp[World.setCell],fun k _ c=>Below.heap_setCell _ _ _ _ (by simpa using c),fun _ _ _ hb=>⟨_,bM hb v⟩⟩
structure Turn where
 over:Bool
 code:Int
 text:ByteArray
 ask:Bool
 name:ByteArray
 steps:Int
def Turn.v (t:Turn):QS:=QV #[QT t.over,I J t.code,U t.text,QT t.ask,U t.name,I J t.steps]
def yV:Turn:=⟨QQ,0,⟨#[]⟩,QQ,⟨#[]⟩,0⟩
structure Mst where
 S:Nat->ByteArray
 size:Nat
 place:Int
 steps:Int
 looks:Int
 t:Turn
def bC (k:Nat):Nat:=if k=2∨k=6∨k=8 then 2 else if k=0∨k=1∨k=10∨15<k then 0 else 1
def cC (k:Nat):Nat:=if k=7∨k=8 then 2 else if k=0∨k=9∨k=10∨k=11∨13<k then 0 else 1
def dl (s:ByteArray):Nat->Bool
 | 0=>QR
 | k+1=>dl s k && (match s.data[k]? with | some c=>decide (33<=c.toNat/\c.toNat<=126) | none=>QQ)
def av (s:ByteArray):Bool:=decide (1<=s.size/\s.size<=60) && dl s s.size
theorem uP {s:ByteArray}{k n:Nat}(h:k<=n)(hn:dl s n=QR):dl s k=QR:=by
 induction n with
 | zero =>
  obtain rfl:k=0:=by omega
  exact hn
 | succ m b =>
  by_cases e:k=m+1
  ·subst e;exact hn
  ·simp only[dl,Bool.and_eq_true] at hn
   exact b (by omega) hn.1
theorem iD {s:ByteArray}{k:Nat}(h:k<s.size):dl s (k+1)=(dl s k && decide (33<=s[k].toNat/\s[k].toNat<=126)):=by
 have e:s.data[k]?=N s[k]:=by rw[Array.getElem?_eq_getElem h];rfl
 rw[dl,e]
theorem eV {s:ByteArray}{k:Nat}(h:k<s.size)(hk:¬ (33<=s[k].toNat/\s[k].toNat<=126)):dl s s.size=QQ:=by
 cases e:dl s s.size with
 | false=>rfl
 | true =>have h2:=uP (show k+1<=s.size by omega) e;rw[iD h] at h2;simp at h2;omega
theorem jb (s:ByteArray)(w:H):Calls Tryz.prog 123 #[U s] w fun e l=>e=QU (QT (av s))/\Below w.heap.size w l:=by
 by_cases h1:1<=(s.size:Int)
 ·by_cases h2:(s.size:Int)<=60
  ·have g:Hid (av s=dl s s.size):=by
    show av s=dl s s.size;unfold av;rw[show decide (1<=s.size/\s.size<=60)=QR by simp;omega,Bool.true_and]
   go_enter Tryz.func123,Tryz.ntmps123;go_wp2;go_loopw [14] (fun i wr=>∃ k:Nat,k<=s.size/\i=I J k/\dl s k=QR/\Below w.heap.size w wr) (fun i _=>s.size - (intOf i).toNat);case atStart=>exact⟨0,by omega,rfl,rfl,Below.refl _ _⟩
   case round =>
    obtain⟨k,hk,rfl,f,h⟩:=hrel;have c:=ae h;have j:=ae f;clear h f;by_cases b:k<s.size
    ·by_cases p1:33<=(s[k].toNat:Int)
     ·by_cases p2:(s[k].toNat:Int)<=126
      ·go_wp2
       exact⟨⟨k+1,by omega,by go_num,by rw[iD b,j.out];simp;omega,c⟩,by simp[intOf];omega⟩
      ·go_wp2
       go_ret;exact⟨bm (by rw[g.out,eV b (by omega)]),c⟩
     ·go_wp2
      go_ret;exact⟨bm (by rw[g.out,eV b (by omega)]),c⟩
    ·have e:k=s.size:=by omega
     subst e;go_wp2;go_ret;exact⟨bm (by rw[g.out,j.out]),c.out⟩
  ·have e:av s=QQ:=by
    unfold av;rw[show decide (1<=s.size/\s.size<=60)=QQ by simp;omega,Bool.false_and]
   rw[e];clear e;go_enter Tryz.func123,Tryz.ntmps123;go_wp2;go_ret;exact⟨rfl,Below.refl _ _⟩
 ·have e:av s=QQ:=by
   unfold av;rw[show decide (1<=s.size/\s.size<=60)=QQ by simp;omega,Bool.false_and]
  rw[e];clear e;go_enter Tryz.func123,Tryz.ntmps123;go_wp2;go_ret;exact⟨rfl,Below.refl _ _⟩
theorem cY (s:ByteArray)(w:H):Calls Tryz.prog 44 #[U s] w fun e l=>e=QU (QT (av s))/\Below w.heap.size w l:=by
 by_cases h1:1<=(s.size:Int)
 ·by_cases h2:(s.size:Int)<=60
  ·have g:Hid (av s=dl s s.size):=by
    show av s=dl s s.size;unfold av;rw[show decide (1<=s.size/\s.size<=60)=QR by simp;omega,Bool.true_and]
   go_enter Tryz.func44,Tryz.ntmps44;go_wp2;go_loopw [3] (fun i wr=>∃ k:Nat,k<=s.size/\i=I J k/\dl s k=QR/\Below w.heap.size w wr) (fun i _=>s.size - (intOf i).toNat);case atStart=>exact⟨0,by omega,rfl,rfl,Below.refl _ _⟩
   case round =>
    obtain⟨k,hk,rfl,f,h⟩:=hrel;have c:=ae h;have j:=ae f;clear h f;by_cases b:k<s.size
    ·by_cases p1:33<=(s[k].toNat:Int)
     ·by_cases p2:(s[k].toNat:Int)<=126
      ·go_wp2
       exact⟨⟨k+1,by omega,by go_num,by rw[iD b,j.out];simp;omega,c⟩,by simp[intOf];omega⟩
      ·go_wp2
       go_ret;exact⟨bm (by rw[g.out,eV b (by omega)]),c⟩
     ·go_wp2
      go_ret;exact⟨bm (by rw[g.out,eV b (by omega)]),c⟩
    ·have e:k=s.size:=by omega
     subst e;go_wp2;go_ret;exact⟨bm (by rw[g.out,j.out]),c.out⟩
  ·have e:av s=QQ:=by
    unfold av;rw[show decide (1<=s.size/\s.size<=60)=QQ by simp;omega,Bool.false_and]
   rw[e];clear e;go_enter Tryz.func44,Tryz.ntmps44;go_wp2;go_ret;exact⟨rfl,Below.refl _ _⟩
 ·have e:av s=QQ:=by
   unfold av;rw[show decide (1<=s.size/\s.size<=60)=QQ by simp;omega,Bool.false_and]
  rw[e];clear e;go_enter Tryz.func44,Tryz.ntmps44;go_wp2;go_ret;exact⟨rfl,Below.refl _ _⟩
structure aI where
 has:Bool
 code:Int
 text:ByteArray
def AtReply (w:H)(b off i:Nat)(x:aI):Prop :=
 w.cell? (T b (off+i*3) Z)=N (QT x.has)/\w.cell? (T b (off+i*3+1) Z)=N (I J x.code)/\w.cell? (T b (off+i*3+2) Z)=N (U x.text)
theorem AtReply.below {w f:H}{B b off i:Nat}{x:aI}(h:AtReply w b off i x)(hb:Below B w f)(c:b<B):AtReply f b off i x :=
 ⟨(hb.cell (p:=(T b _ Z)) c).trans h.1,(hb.cell (p:=(T b _ Z)) c).trans h.2.1,(hb.cell (p:=(T b _ Z)) c).trans h.2.2⟩
def RowReply (w:H)(b off n:Nat)(f:Nat->aI):Prop:=b<w.heap.size/\∀ i,i<n->AtReply w b off i (f i)
theorem RowReply.below {w c:H}{B b off n:Nat}{f:Nat->aI}(h:RowReply w b off n f)(hb:Below B w c)(g:w.heap.size<=B):RowReply c b off n f :=
 ⟨Nat.lt_of_lt_of_le h.1 hb.size,fun i hi=>(h.2 i hi).below hb (Nat.lt_of_lt_of_le h.1 g)⟩
structure Source where
 name:ByteArray
 text:ByteArray
def AtSource (w:H)(b off i:Nat)(x:Source):Prop :=
 w.cell? (T b (off+i*2) Z)=N (U x.name)/\w.cell? (T b (off+i*2+1) Z)=N (U x.text)
theorem AtSource.below {w f:H}{B b off i:Nat}{x:Source}(h:AtSource w b off i x)(hb:Below B w f)(c:b<B):AtSource f b off i x :=
 ⟨(hb.cell (p:=(T b _ Z)) c).trans h.1,(hb.cell (p:=(T b _ Z)) c).trans h.2⟩
def RowSource (w:H)(b off n:Nat)(f:Nat->Source):Prop:=b<w.heap.size/\∀ i,i<n->AtSource w b off i (f i)
theorem RowSource.below {w c:H}{B b off n:Nat}{f:Nat->Source}(h:RowSource w b off n f)(hb:Below B w c)(g:w.heap.size<=B):RowSource c b off n f :=
 ⟨Nat.lt_of_lt_of_le h.1 hb.size,fun i hi=>(h.2 i hi).below hb (Nat.lt_of_lt_of_le h.1 g)⟩
def SlSource (w:H)(a:Option Addr)(n:Nat)(f:Nat->Source):Prop:=n=0∨∃ b off,a=N (T b off Z)/\RowSource w b off n f
theorem SlSource.below {w c:H}{B:Nat}{a:Option Addr}{n:Nat}{f:Nat->Source}(h:SlSource w a n f)(hb:Below B w c)(j:w.heap.size<=B):SlSource c a n f:=by
 rcases h with h | ⟨b,off,g,i⟩
 ·exact .inl h
 ·exact .inr ⟨b,off,g,i.below hb j⟩
theorem jc:(Tryz.prog.info? 121).map (fun i=>(i.zero,i.size,i.bytes))=N (N (QV #[U ⟨#[]⟩,U ⟨#[]⟩]),2,32):=by kernel_rfl
structure Target where
 name:ByteArray
 actN:Nat
 act:Nat->Ins
def bP (x:Target):Prop:=x.actN<=1048576
def AtTarget (w:H)(b off i:Nat)(x:Target):Prop :=
 w.cell? (T b (off+i*2) Z)=N (U x.name)/\(∃ a cap,w.cell? (T b (off+i*2+1) Z)=N (Y a x.actN cap)/\SlIns w a x.actN x.act)
theorem AtTarget.below {w g:H}{B b off i:Nat}{x:Target}(h:AtTarget w b off i x)(hb:Below B w g)(f:w.heap.size<=B)(j:b<w.heap.size):AtTarget g b off i x:=by obtain⟨l,⟨a0,c,m,r0⟩⟩:=h;refine⟨(hb.cell (p:=(T b _ Z)) (Nat.lt_of_lt_of_le j f)).trans l,⟨a0,c,(hb.cell (p:=(T b _ Z)) (Nat.lt_of_lt_of_le j f)).trans m,r0.below hb f⟩⟩
def RowTarget (w:H)(b off n:Nat)(f:Nat->Target):Prop:=b<w.heap.size/\∀ i,i<n->AtTarget w b off i (f i)
theorem RowTarget.below {w c:H}{B b off n:Nat}{f:Nat->Target}(h:RowTarget w b off n f)(hb:Below B w c)(g:w.heap.size<=B):RowTarget c b off n f :=
 ⟨Nat.lt_of_lt_of_le h.1 hb.size,fun i hi=>(h.2 i hi).below hb g h.1⟩
def SlTarget (w:H)(a:Option Addr)(n:Nat)(f:Nat->Target):Prop:=n=0∨∃ b off,a=N (T b off Z)/\RowTarget w b off n f
theorem SlTarget.below {w c:H}{B:Nat}{a:Option Addr}{n:Nat}{f:Nat->Target}(h:SlTarget w a n f)(hb:Below B w c)(j:w.heap.size<=B):SlTarget c a n f:=by
 rcases h with h | ⟨b,off,g,i⟩
 ·exact .inl h
 ·exact .inr ⟨b,off,g,i.below hb j⟩
theorem fL:(Tryz.prog.info? 125).map (fun i=>(i.zero,i.size,i.bytes))=N (N (QV #[U ⟨#[]⟩,Y Z 0 0]),2,40):=by kernel_rfl
def RowStr (w:H)(b off n:Nat)(f:Nat->ByteArray):Prop:=b<w.heap.size/\∀ i,i<n->w.cell? (T b (off+i) Z)=N (U (f i))
theorem RowStr.below {w c:H}{B b off n:Nat}{f:Nat->ByteArray}(h:RowStr w b off n f)(hb:Below B w c)(g:w.heap.size<=B):RowStr c b off n f :=
 ⟨Nat.lt_of_lt_of_le h.1 hb.size,fun i hi=>(hb.cell (p:=(T b _ Z)) (Nat.lt_of_lt_of_le h.1 g)).trans (h.2 i hi)⟩
def SlStr (w:H)(a:Option Addr)(n:Nat)(f:Nat->ByteArray):Prop:=n=0∨∃ b off,a=N (T b off Z)/\RowStr w b off n f
theorem SlStr.below {w c:H}{B:Nat}{a:Option Addr}{n:Nat}{f:Nat->ByteArray}(h:SlStr w a n f)(hb:Below B w c)(j:w.heap.size<=B):SlStr c a n f:=by
 rcases h with h | ⟨b,off,g,i⟩
 ·exact .inl h
 ·exact .inr ⟨b,off,g,i.below hb j⟩
theorem lm:(Tryz.prog.info? 9).map (fun i=>(i.zero,i.size,i.bytes))=N (N (U ⟨#[]⟩),1,16):=by kernel_rfl
theorem xj (f:Nat->Ins):valid f 0=QQ:=by simp[valid]
theorem sH (a:Option Addr)(n cap:Nat)(f:Nat->Ins)(w:H)(hn:n<=1048576)(g:SlIns w a n f)(h:Tab w):Calls Tryz.prog 116 #[QV #[Y a n cap]] w fun e i=>e=QU (QT (valid f n))/\Below w.heap.size w i:=by
 rcases g with rfl | ⟨b,off,rfl,c⟩
 ·exact mF a 0 cap f w (by omega) (by simp)
 ·exact rZ b off n cap f w hn c.1 c.2 h
theorem r8 (a:Option Addr)(cap:Nat)(f:Nat->Ins)(w:H):Calls Tryz.prog 66 #[QV #[Y a 0 cap]] w fun e b=>e=QU (QT (valid f 0))/\Below w.heap.size w b:=by
 rw[xj];have c:=ae ((Below.refl w.heap.size w).alloc (Nat.le_refl _) (Q #[Y a 0 cap] 43));go_enter Tryz.func66,Tryz.ntmps66;go_wp2;go_loop [3] (fun i=>i=I J 0) (fun _=>0);case atStart=>rfl
 case round =>subst hrel;go_wp2;go_ret;exact⟨rfl,c⟩
theorem jv (a:Option Addr)(n cap:Nat)(f:Nat->Ins)(w:H)(hn:n<=1048576)(g:SlIns w a n f)(h:∀ i,i<n->(f i).s.size<=maxLen):Calls Tryz.prog 66 #[QV #[Y a n cap]] w fun e j=>e=QU (QT (valid f n))/\Below w.heap.size w j:=by
 rcases g with rfl | ⟨b,off,rfl,c⟩
 ·exact r8 a cap f w
 ·exact fY b off n cap f w hn c.1 c.2 h
structure Link where
 name:ByteArray
 ask:Bool
 has:Bool
 at_:Int
def AtLink (w:H)(b off i:Nat)(x:Link):Prop :=
 w.cell? (T b (off+i*4) Z)=N (U x.name)/\w.cell? (T b (off+i*4+1) Z)=N (QT x.ask)/\w.cell? (T b (off+i*4+2) Z)=N (QT x.has)/\w.cell? (T b (off+i*4+3) Z)=N (I J x.at_)
theorem AtLink.below {w f:H}{B b off i:Nat}{x:Link}(h:AtLink w b off i x)(hb:Below B w f)(c:b<B):AtLink f b off i x :=
 ⟨(hb.cell (p:=(T b _ Z)) c).trans h.1,(hb.cell (p:=(T b _ Z)) c).trans h.2.1,(hb.cell (p:=(T b _ Z)) c).trans h.2.2.1,(hb.cell (p:=(T b _ Z)) c).trans h.2.2.2⟩
def RowLink (w:H)(b off n:Nat)(f:Nat->Link):Prop:=b<w.heap.size/\∀ i,i<n->AtLink w b off i (f i)
theorem RowLink.below {w c:H}{B b off n:Nat}{f:Nat->Link}(h:RowLink w b off n f)(hb:Below B w c)(g:w.heap.size<=B):RowLink c b off n f :=
 ⟨Nat.lt_of_lt_of_le h.1 hb.size,fun i hi=>(h.2 i hi).below hb (Nat.lt_of_lt_of_le h.1 g)⟩
def SlLink (w:H)(a:Option Addr)(n:Nat)(f:Nat->Link):Prop:=n=0∨∃ b off,a=N (T b off Z)/\RowLink w b off n f
theorem SlLink.below {w c:H}{B:Nat}{a:Option Addr}{n:Nat}{f:Nat->Link}(h:SlLink w a n f)(hb:Below B w c)(j:w.heap.size<=B):SlLink c a n f:=by
 rcases h with h | ⟨b,off,g,i⟩
 ·exact .inl h
 ·exact .inr ⟨b,off,g,i.below hb j⟩
theorem oy:(Tryz.prog.info? 129).map (fun i=>(i.zero,i.size,i.bytes))=N (N (QV #[U ⟨#[]⟩,QT QQ,QT QQ,I J 0]),4,32):=by kernel_rfl
structure aj where
 name:ByteArray
 kind:Int
 code:Int
 text:ByteArray
 actN:Nat
 act:Nat->Ins
 linksN:Nat
 links:Nat->Link
def eF (x:aj):Prop:=x.name.size<=maxLen/\x.text.size<=maxLen/\((x.actN:Int)<=9223372036854775807/\∀ j,j<x.actN->(x.act j).s.size<=maxLen)/\((x.linksN:Int)<=9223372036854775807/\∀ j,j<x.linksN->(x.links j).name.size<=maxLen)
def cS (x:aj):Prop:=x.actN<=1048576/\x.linksN<=1048576
def AtDeed (w:H)(b off i:Nat)(x:aj):Prop :=
 w.cell? (T b (off+i*6) Z)=N (U x.name)/\w.cell? (T b (off+i*6+1) Z)=N (I J x.kind)/\w.cell? (T b (off+i*6+2) Z)=N (I J x.code)/\w.cell? (T b (off+i*6+3) Z)=N (U x.text)/\(∃ a cap,w.cell? (T b (off+i*6+4) Z)=N (Y a x.actN cap)/\SlIns w a x.actN x.act)/\(∃ a cap,w.cell? (T b (off+i*6+5) Z)=N (Y a x.linksN cap)/\SlLink w a x.linksN x.links)
theorem AtDeed.below {w l:H}{B b off i:Nat}{x:aj}(h:AtDeed w b off i x)(hb:Below B w l)(c:w.heap.size<=B)(f:b<w.heap.size):AtDeed l b off i x:=by obtain⟨m,q,o,r,⟨a0,g,s,r0⟩,⟨a1,j,n,r1⟩⟩:=h;refine⟨(hb.cell (p:=(T b _ Z)) (Nat.lt_of_lt_of_le f c)).trans m,(hb.cell (p:=(T b _ Z)) (Nat.lt_of_lt_of_le f c)).trans q,(hb.cell (p:=(T b _ Z)) (Nat.lt_of_lt_of_le f c)).trans o,(hb.cell (p:=(T b _ Z)) (Nat.lt_of_lt_of_le f c)).trans r,⟨a0,g,(hb.cell (p:=(T b _ Z)) (Nat.lt_of_lt_of_le f c)).trans s,r0.below hb c⟩,⟨a1,j,(hb.cell (p:=(T b _ Z)) (Nat.lt_of_lt_of_le f c)).trans n,r1.below hb c⟩⟩
def RowDeed (w:H)(b off n:Nat)(f:Nat->aj):Prop:=b<w.heap.size/\∀ i,i<n->AtDeed w b off i (f i)
theorem RowDeed.below {w c:H}{B b off n:Nat}{f:Nat->aj}(h:RowDeed w b off n f)(hb:Below B w c)(g:w.heap.size<=B):RowDeed c b off n f :=
 ⟨Nat.lt_of_lt_of_le h.1 hb.size,fun i hi=>(h.2 i hi).below hb g h.1⟩
def SlDeed (w:H)(a:Option Addr)(n:Nat)(f:Nat->aj):Prop:=n=0∨∃ b off,a=N (T b off Z)/\RowDeed w b off n f
theorem SlDeed.below {w c:H}{B:Nat}{a:Option Addr}{n:Nat}{f:Nat->aj}(h:SlDeed w a n f)(hb:Below B w c)(j:w.heap.size<=B):SlDeed c a n f:=by
 rcases h with h | ⟨b,off,g,i⟩
 ·exact .inl h
 ·exact .inr ⟨b,off,g,i.below hb j⟩
theorem ie:(Tryz.prog.info? 46).map (fun i=>(i.zero,i.size,i.bytes))=N (N (QV #[U ⟨#[]⟩,I J 0,I J 0,U ⟨#[]⟩,Y Z 0 0,Y Z 0 0]),6,96):=by kernel_rfl
def dy (n:Nat):Array QS:=madeCells (Value.agg #[U ⟨#[]⟩,I J 0,I J 0,U ⟨#[]⟩,Y Z 0 0,Y Z 0 0]).cells (n*6)
theorem FC (n:Nat)(hn:n<=1048576)(w:H):(Instr.makeSlice 23 (I J (n:Int)) (I J (n:Int))).run Tryz.prog w=.ok (Y (N (T w.heap.size 0 Z)) n n) (w.alloc (Q (dy n) 46)):=by obtain⟨i,hi,hz⟩:=Option.map_eq_some_iff.1 ie;simp only[Prod.mk.injEq] at hz;obtain⟨h1,h2,b⟩:=hz;have h:=run_make (P:=Tryz.prog) w 23 46 i _ Tryz.underlying23 hi h1 J J n n (by omega) (Int.le_refl _) (by rw[b];omega) (by omega);rw[h2] at h;simpa[dy] using h
def ee (f:Nat->aj)(p:Nat)(l:Link):Bool :=
 av l.name && (if l.ask=QR then !l.has && decide (0<=l.at_) && decide (l.at_<(p:Int)) && ((f l.at_.toNat).name.toList == l.name.toList) else decide (l.at_=0))
def bS (f:Nat->aj)(p:Nat)(x:aj):Nat->Bool
 | 0=>QR
 | k+1=>bS f p x k && ee f p (x.links k)
def aP (x:aj):Bool:=decide (x.code=0) && decide (x.actN=0) && decide (x.linksN=0)
def ci (f:Nat->aj)(p:Nat)(x:aj):Bool:=decide (0<=x.code) && decide (x.code<=5) && valid x.act x.actN && decide (x.linksN<=200) && bS f p x x.linksN
def kindOk (f:Nat->aj)(p:Nat)(x:aj):Bool :=
 if x.kind=1 then aP x else if x.kind=2 then aP x && decide (x.text.size=0) else if x.kind=3 then ci f p x else QQ
def bi (f:Nat->aj)(p:Nat):Bool:=av (f p).name && decide ((f p).text.size<=2000) && kindOk f p (f p)
def aW (f:Nat->aj)(p:Nat):Nat->Bool
 | 0=>QR
 | k+1=>aW f p k && !((f k).name.toList == (f p).name.toList)
def aK (g:Nat->Bool):Nat->Int
 | 0=>-1
 | k+1=>if aK g k=-1 then (if g k=QR then -1 else k) else aK g k
theorem ep {g:Nat->Bool}{n:Nat}(h:∀ i,i<n->g i=QR):aK g n=-1:=by
 induction n with
 | zero=>rfl
 | succ k b =>rw[aK,if_pos (b fun i hi=>h i (by omega)),if_pos (h k (by omega))]
theorem fM {g:Nat->Bool}{n i:Nat}(hi:i<n)(b:g i=QQ)(h:∀ j,j<i->g j=QR):aK g n=i:=by
 induction n with
 | zero=>omega
 | succ k c =>
  rw[aK];by_cases e:i=k
  ·subst e
   rw[if_pos (ep h),if_neg (by rw[b];simp)]
  ·have:=c (by omega)
   rw[this,if_neg (by omega)]
theorem dM {g:Nat->Bool}{n:Nat}(h:aK g n=-1):∀ i,i<n->g i=QR:=by
 induction n with
 | zero=>intro i hi;omega
 | succ k b =>
  rw[aK] at h;split at h
  ·rename_i h1
   intro i hi;by_cases e:i=k
   ·subst e
    cases hg:g i with
    | true=>rfl
    | false=>rw[hg] at h;simp at h
   ·exact b h1 i (by omega)
  ·rename_i h1
   exact absurd h h1
theorem lp {f:Nat->aj}{p:Nat}{x:aj}{n:Nat}(h:bS f p x n=QR):∀ i,i<n->ee f p (x.links i)=QR:=by
 induction n with
 | zero=>intro i hi;omega
 | succ k b =>
  simp only[bS,Bool.and_eq_true] at h;intro i hi;by_cases e:i=k
  ·subst e;exact h.2
  ·exact b h.1 i (by omega)
def lks (go:Nat->Nat->(Nat->Bool)->(Nat->Bool) × List (Nat × Nat))(x:aj)(d:Nat)(s:Nat->Bool):Nat->(Nat->Bool) × List (Nat × Nat)
 | 0=>(s,[])
 | j+1=>if (x.links j).ask=QR/\(lks go x d s j).1 (x.links j).at_.toNat=QQ then ((go (x.links j).at_.toNat (d+1) (lks go x d s j).1).1,(lks go x d s j).2++(go (x.links j).at_.toNat (d+1) (lks go x d s j).1).2) else lks go x d s j
def put (s:Nat->Bool)(p:Nat):Nat->Bool:=fun q=>q == p || s q
def lst (f:Nat->aj):Nat->Nat->Nat->(Nat->Bool)->(Nat->Bool) × List (Nat × Nat)
 | 0,_,_,s=>(s,[])
 | k+1,p,d,s=>(put (lks (lst f k) (f p) d s (f p).linksN).1 p,(lks (lst f k) (f p) d s (f p).linksN).2++[(p,d)])
def fZ (f:Nat->aj)(n:Nat):Prop:=∀ p,p<n->∀ i,i<(f p).linksN->((f p).links i).ask=QR->((f p).links i).at_.toNat<p/\0<=((f p).links i).at_
def cnt (s:Nat->Bool):Nat->Nat
 | 0=>0
 | k+1=>cnt s k+(if s k=QR then 1 else 0)
theorem cnt_le (s:Nat->Bool)(n:Nat):cnt s n<=n:=by
 induction n with
 | zero=>simp[cnt]
 | succ k ih=>rw[cnt];split<;>omega
theorem yW {s b:Nat->Bool}{n:Nat}(h:∀ q,q<n->s q=b q):cnt s n=cnt b n:=by
 induction n with
 | zero=>rfl
 | succ k c=>rw[cnt,cnt,c fun q hq=>h q (by omega),h k (by omega)]
theorem Eh {s:Nat->Bool}{p n:Nat}(hp:p<n)(h:s p=QQ):cnt (put s p) n=cnt s n+1:=by
 induction n with
 | zero=>omega
 | succ k b =>
  rw[cnt,cnt];by_cases e:p=k
  ·subst e
   have h1:cnt (put s p) p=cnt s p:=yW fun q hq=>by simp[put];omega
   simp[h1,put,h]
  ·have h1:put s p k=s k:=by simp[put];omega
   rw[b (by omega),h1];omega
structure Lsd (n p d:Nat)(s:Nat->Bool)(r:(Nat->Bool) × List (Nat × Nat)):Prop where
 far:∀ q,p<q->r.1 q=s q
 old:∀ q,s q=QR->r.1 q=QR
 num:cnt r.1 n=cnt s n+r.2.length
 last:∃ o,r.2=o++[(p,d)]
 le:∀ x∈r.2,x.1<=p
theorem vR {f:Nat->aj}{n k p d:Nat}{s:Nat->Bool}(i:fZ f n)(m:p<n)(go:∀ q d s,q<p->s q=QQ->Lsd n q d s (lst f k q d s)):∀ j,j<=(f p).linksN->(∀ q,p<=q->(lks (lst f k) (f p) d s j).1 q=s q)/\(∀ q,s q=QR->(lks (lst f k) (f p) d s j).1 q=QR)/\cnt (lks (lst f k) (f p) d s j).1 n=cnt s n+(lks (lst f k) (f p) d s j).2.length/\∀ x∈(lks (lst f k) (f p) d s j).2,x.1<p
 | 0,_=>⟨fun _ _=>rfl,fun _ h=>h,by simp[lks],by simp[lks]⟩
 | j+1,hj=>by
  obtain⟨h1,h2,o,r⟩:=vR (d:=d) (s:=s) i m go j (by omega);rw[lks];split
  ·rename_i l
   have t:=(i p m j (by omega) l.1).1;have g:=go _ (d+1) _ t l.2;refine⟨fun q c=>(g.far q (by omega)).trans (h1 q c),fun q c=>g.old q (h2 q c),?_,fun x b=>?_⟩
   ·show cnt (lst f k _ (d+1) _).1 n=_
    rw[g.num,o,List.length_append];omega
   ·rcases List.mem_append.1 b with b | b
    ·exact r x b
    ·have:=g.le x b
     omega
  ·exact⟨h1,h2,o,r⟩
theorem vS {f:Nat->aj}{n:Nat}(i:fZ f n):∀ k p d s,p<k->p<n->s p=QQ->Lsd n p d s (lst f k p d s)
 | 0,_,_,_,h,_,_=>absurd h (Nat.not_lt_zero _)
 | k+1,p,d,s,hk,hn,c=>by
  obtain⟨h1,h2,m,j⟩:=vR (d:=d) (s:=s) i hn (fun q d s g c=>vS i k q d s (by omega) (by omega) c) (f p).linksN (Nat.le_refl _);have l:=(h1 p (Nat.le_refl _)).trans c;refine⟨fun q g=>?_,fun q g=>?_,?_,⟨_,rfl⟩,fun x b=>?_⟩
  ·show put _ p q=s q
   rw[put,h1 q (by omega)];simp;omega
  ·show put _ p q=QR
   rw[put,h2 q g];simp
  ·show cnt (put _ p) n=_
   rw[Eh hn l,m];simp[lst,List.length_append];omega
  ·rcases List.mem_append.1 b with b | b
   ·exact Nat.le_of_lt (j x b)
   ·simp at b
    subst b;exact Nat.le_refl _
theorem vT {f:Nat->aj}{n:Nat}(c:fZ f n):∀ k p d s q,p<n->p<q->lst f k p d (put s q)=(put (lst f k p d s).1 q,(lst f k p d s).2)
 | 0,_,_,_,_,_,_=>rfl
 | k+1,p,d,s,q,hn,hq=>by
  have g:∀ j,j<=(f p).linksN->lks (lst f k) (f p) d (put s q) j=(put (lks (lst f k) (f p) d s j).1 q,(lks (lst f k) (f p) d s j).2):=by
   intro j;induction j with
   | zero=>intro _;rfl
   | succ j i =>
    intro hj;have e:=i (by omega);rw[lks,lks,e];by_cases b:((f p).links j).ask=QR
    ·have ha:=(c p hn j (by omega) b).1
     have l:put (lks (lst f k) (f p) d s j).1 q ((f p).links j).at_.toNat=(lks (lst f k) (f p) d s j).1 ((f p).links j).at_.toNat:=by simp[put];omega
     simp only[l,b,true_and];split
     ·rw[vT c k _ (d+1) _ q (by omega) (by omega)]
     ·rfl
    ·rw[if_neg (fun h=>b h.1),if_neg (fun h=>b h.1)]
  have e:=g (f p).linksN (Nat.le_refl _);rw[lst,lst,e];simp only[Prod.mk.injEq,and_true];funext x;simp only[put];cases h1:x == p<;>cases h2:x == q<;>simp
def bD:Nat->List (Nat × Nat)->Int
 | _,[]=>-1
 | i,x :: xs=>if x.1=i then bD (i+1) xs else i
def aY (f:Nat->aj):List (Nat × Nat)->Int
 | []=>-1
 | x :: xs=>if (f x.1).kind=3/\60<=x.2 then x.1 else aY f xs
def aC (f:Nat->aj)(n:Nat):List (Nat × Nat):=(lst f n (n - 1) 0 (fun _=>QQ)).2
def dH (f:Nat->aj)(n:Nat):Int × Int :=
 if n=0∨400<n then (1,0) else
 if aK (bi f) n≠-1 then (2,aK (bi f) n) else
 if aK (fun p=>aW f p p) n≠-1 then (3,aK (fun p=>aW f p p) n) else
 if bD 0 (aC f n)≠-1 then (4,bD 0 (aC f n)) else
 if aY f (aC f n)≠-1 then (5,aY f (aC f n)) else (0,0)
theorem jw {f:Nat->aj}{n:Nat}(h:aK (bi f) n=-1):fZ f n:=by
 intro p c i hi b;have h1:=dM h p c;simp only[bi,Bool.and_eq_true,kindOk] at h1;obtain⟨_,h2⟩:=h1;split at h2
 ·simp[aP] at h2
  omega
 ·split at h2
  ·simp[aP] at h2
   omega
  ·split at h2
   ·simp only[ci,Bool.and_eq_true] at h2
    have g:=lp h2.2 i hi;simp only[ee,b,if_true,Bool.and_eq_true,decide_eq_true_eq] at g;omega
   ·cases h2
def iX (x y:Ins):Bool:=x.op == y.op && x.s.toList == y.s.toList && x.n == y.n
def cA (f g:Nat->Ins):Nat->Bool
 | 0=>QR
 | k+1=>cA f g k && iX (f k) (g k)
def bu (f g:Nat->Ins)(n m:Nat):Bool:=decide (n=m) && cA f g n
theorem pa {f g:Nat->Ins}{k n:Nat}(h:k<=n)(hn:cA f g n=QR):cA f g k=QR:=by
 induction n with
 | zero =>
  obtain rfl:k=0:=by omega
  exact hn
 | succ m b =>
  by_cases e:k=m+1
  ·subst e;exact hn
  ·simp only[cA,Bool.and_eq_true] at hn
   exact b (by omega) hn.1
theorem ki {f g:Nat->Ins}{k n:Nat}(h:k<n)(b:iX (f k) (g k)=QQ):cA f g n=QQ:=by
 cases e:cA f g n with
 | false=>rfl
 | true =>have h2:=pa (show k+1<=n by omega) e;simp[cA,b] at h2
theorem xk {a b:ByteArray}(h:(a.toList == b.toList)=QR):a=b:=by
 have h1:a.toList=b.toList:=by simpa using h
 rw[ByteArray.toList_eq,ByteArray.toList_eq] at h1;exact ByteArray.ext (Array.ext' h1)
theorem uQ (s:ByteArray)(w:H):Calls Tryz.prog 123 #[U s] w fun e l=>e=QU (QT (av s))/\l=w:=by
 by_cases h1:1<=(s.size:Int)
 ·by_cases h2:(s.size:Int)<=60
  ·have g:Hid (av s=dl s s.size):=by
    show av s=dl s s.size;unfold av;rw[show decide (1<=s.size/\s.size<=60)=QR by simp;omega,Bool.true_and]
   go_enter Tryz.func123,Tryz.ntmps123;go_wp2;go_loopw [14] (fun i wr=>∃ k:Nat,k<=s.size/\i=I J k/\dl s k=QR/\wr=w) (fun i _=>s.size - (intOf i).toNat);case atStart=>exact⟨0,by omega,rfl,rfl,rfl⟩
   case round =>
    obtain⟨k,hk,rfl,f,h⟩:=hrel;have c:=ae h;have j:=ae f;clear h f;by_cases b:k<s.size
    ·by_cases p1:33<=(s[k].toNat:Int)
     ·by_cases p2:(s[k].toNat:Int)<=126
      ·go_wp2
       exact⟨⟨k+1,by omega,by go_num,by rw[iD b,j.out];simp;omega,c⟩,by simp[intOf];omega⟩
      ·go_wp2
       go_ret;exact⟨bm (by rw[g.out,eV b (by omega)]),c⟩
     ·go_wp2
      go_ret;exact⟨bm (by rw[g.out,eV b (by omega)]),c⟩
    ·have e:k=s.size:=by omega
     subst e;go_wp2;go_ret;exact⟨bm (by rw[g.out,j.out]),c.out⟩
  ·have e:av s=QQ:=by
    unfold av;rw[show decide (1<=s.size/\s.size<=60)=QQ by simp;omega,Bool.false_and]
   rw[e];clear e;go_enter Tryz.func123,Tryz.ntmps123;go_wp2;go_ret;exact⟨rfl,rfl⟩
 ·have e:av s=QQ:=by
   unfold av;rw[show decide (1<=s.size/\s.size<=60)=QQ by simp;omega,Bool.false_and]
  rw[e];clear e;go_enter Tryz.func123,Tryz.ntmps123;go_wp2;go_ret;exact⟨rfl,rfl⟩
def SBx (V:H)(b:Nat)(c f:QS):Prop:=V.heap[b]?=N (Q #[c,f] 29 (0,0))
theorem SBx.c0 {V:H}{b:Nat}{c v1:QS}(h:SBx V b c v1):V.cell? (T b 0 Z)=N c:=by have f:V.heap[b]?=N (Q #[c,v1] 29 (0,0)):=h;simp[World.cell?,f]
theorem SBx.c1 {V:H}{b:Nat}{f c:QS}(h:SBx V b f c):V.cell? (T b 1 Z)=N c:=by have g:V.heap[b]?=N (Q #[f,c] 29 (0,0)):=h;simp[World.cell?,g]
theorem SBx.below {V QY:H}{b B:Nat}{c f:QS}(h:SBx V b c f)(hb:Below B V QY)(g:V.heap.size<=B):SBx QY b c f :=
 (hb.block b (Nat.lt_of_lt_of_le (ai h) g)).trans h
def PBx (V:H)(b:Nat)(c:QS):Prop:=V.heap[b]?=N (Q #[c] 43 (0,0))
theorem PBx.c0 {V:H}{b:Nat}{c:QS}(h:PBx V b c):V.cell? (T b 0 Z)=N c:=by have f:V.heap[b]?=N (Q #[c] 43 (0,0)):=h;simp[World.cell?,f]
theorem PBx.below {V QY:H}{b B:Nat}{c:QS}(h:PBx V b c)(hb:Below B V QY)(f:V.heap.size<=B):PBx QY b c :=
 (hb.block b (Nat.lt_of_lt_of_le (ai h) f)).trans h
structure PP (V:H)(pb g pm pc:Nat)(fp:Nat->Ins):Prop where
 p:PBx V pb (Y (N (T g 0 Z)) pm pc)
 i:RowIns V g 0 pm fp
theorem PP.below {V QY:H}{c g l b B:Nat}{f:Nat->Ins}(h:PP V c g l b f)(hb:Below B V QY)(j:V.heap.size<=B):PP QY c g l b f:=⟨h.p.below hb j,h.i.below hb j⟩
def AB (V:H)(b:Nat)(v:QS):Prop:=V.heap[b]?=N (Q #[v] 25 (0,0))
theorem AB.c0 {V:H}{b:Nat}{v:QS}(h:AB V b v):V.cell? (T b 0 Z)=N v:=by have c:V.heap[b]?=N (Q #[v] 25 (0,0)):=h;simp[World.cell?,c]
theorem AB.below {V QY:H}{b B:Nat}{v:QS}(h:AB V b v)(hb:Below B V QY)(c:V.heap.size<=B):AB QY b v :=
 (hb.block b (Nat.lt_of_lt_of_le (ai h) c)).trans h
end Go.Proofs.YtamacmnikdejeaaGreatDoor.Vp
