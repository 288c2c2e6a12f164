import Derived.Test.YtkdimgejdocbbaaGreatDoorProg
import Derived.WalkKit
import Derived.WalkSpells
import Derived.WalkLawsBesides
import Derived.Deep.OwnRows
import Derived.Deep.RegionWith
import Derived.Deep.QuietTactic
import Derived.BigQuiet
set_option maxHeartbeats 1000000
open Go.Addr renaming mk->J
open Go.Value renaming slice->Y,string->U,int->N,bool->QA,agg->QE
open Option renaming none->Z,some->Q
open Go.Obj renaming cells->T
open Go.IntKind renaming i64->I
open Go renaming World->E,Value->QB
open Bool renaming false->D,true->QC
open Go.Ending renaming returned->QD
namespace Go.Proofs.YtkdimgejdocbbaaGreatDoor.Vp
open RowKit
theorem ll {a b c:Nat}(h:a<b)(g:b<=c):a<c:=Nat.lt_of_lt_of_le h g
theorem lj (n:Nat):n<n+1:=Nat.lt_succ_self n
theorem Qs (w:E):Below w.heap.size w w:=Below.refl _ _
theorem br {B:Nat}{w:E}:Below B w w:=Below.refl _ _
abbrev sq:=@World.cell?_setCell_other
abbrev qh:=@Below.heap_setCell
abbrev bp:=@bodyPost_ret
abbrev gq:=@List.getElem?_eq_getElem
abbrev cq:=@World.cell?_of_block
abbrev bg:=@Below.grown
abbrev gz:=@List.getElem_mem
abbrev nj:=@List.not_mem_nil
abbrev mq:=@List.mem_cons_of_mem
abbrev a8:=@if_neg
abbrev cM:=@List.length_append
abbrev eI:=@Below.refl
abbrev eL:=@heap_alloc_new
abbrev eT:=@if_pos
abbrev gM:=@Bool.and_eq_true
abbrev j3:=@List.mem_singleton
abbrev j4:=@decide_eq_true_eq
abbrev j5:=@Nat.le_trans
abbrev j6:=@Nat.le_refl
abbrev kP:=@List.mem_append
abbrev kS:=@List.getElem?_eq_some_iff
abbrev o3:=@List.length_cons
abbrev p7:=@List.length_singleton
abbrev p8:=@Nat.lt_of_lt_of_le
abbrev p9:=@IntKind.wrap_i64
abbrev vF:=@List.getD_eq_getElem?_getD
abbrev vG:=@congrArg
abbrev wC:=@below_drewN
abbrev xT:=@Int.eq_ofNat_of_zero_le
abbrev x4:=@Array.getElem?_eq_some_iff
abbrev AI:=@World.cell?_setCell_same'
abbrev AS:=@Nat.le_succ
abbrev AT:=@List.getElem?_append_right
abbrev BC:=@List.mem_cons
abbrev BO:=@List.mem_range
abbrev CL:=@wpList_append_own
abbrev CN:=@Value.slice.injEq
abbrev CP:=@Nat.zero_le
abbrev CS:=@Nat.not_lt_zero
abbrev CV:=@Prod.mk.injEq
abbrev C9:=@Nat.zero_add
abbrev DC:=@World.frozen?_of_block
abbrev DN:=@List.pairwise_iff_getElem
abbrev D0:=@List.mem_of_getElem?
abbrev EQ:=@Option.some.injEq
abbrev ES:=@List.length_nil
abbrev E2:=@List.map_append
abbrev E4:=@World.ownsRow_nil
abbrev FB:=@Option.some.inj
abbrev H7:=@ByteArray.toList_eq
abbrev IA:=@List.append_assoc
abbrev IB:=@List.flatMap_append
abbrev IC:=@List.mem_map
abbrev ID:=@List.getElem?_map
abbrev IE:=@List.length_pos_iff
abbrev IH:=@List.length_drop
abbrev II:=@List.mem_append_left
abbrev IJ:=@List.getElem?_append_left
abbrev IK:=@decide_eq_false_iff_not
abbrev IL:=@Bool.eq_iff_iff
abbrev IM:=@List.nil_append
abbrev IN:=@Array.getElem?_toList
abbrev IP:=@List.getElem?_eq_none
abbrev IQ:=@info_parts
abbrev IS:=@List.length_set
abbrev IT:=@List.length_take
abbrev IU:=@of_decide_eq_true
abbrev IW:=@Nat.lt_or_ge
abbrev IX:=@List.pairwise_append
abbrev IY:=@List.take_of_length_le
abbrev IZ:=@List.length_map
abbrev I4:=@List.cons_append
abbrev I5:=@Array.getElem?_modify
abbrev I6:=@List.mem_append_right
abbrev I7:=@List.getElem?_of_mem
abbrev I8:=@List.flatMap_cons
abbrev I9:=@Bool.true_and
abbrev JA:=@List.range_succ
abbrev JB:=@Exit.noGoto_ret
abbrev JC:=@World.ownsRow_made
abbrev JD:=@Nat.add_sub_cancel
abbrev JE:=@Array.getElem?_eq_none
abbrev JF:=@Bool.not_eq_false
abbrev JG:=@List.mem_or_eq_of_mem_set
abbrev JH:=@List.findIdx?_eq_none_iff
abbrev JI:=@Below.heap_setCell
abbrev JJ:=@decide_eq_true
abbrev JK:=@List.size_toArray
abbrev JL:=@Int.tmod_eq_emod_of_nonneg
abbrev JM:=@Array.toList_setIfInBounds
abbrev JN:=@List.mem_cons_self
abbrev JO:=@List.find?_eq_none
abbrev JP:=@ByteArray.size_append
abbrev JQ:=@List.findIdx?_eq_some_iff_getElem
abbrev JR:=@Classical.byContradiction
abbrev JS:=@decide_eq_false
abbrev JT:=@List.mem_of_mem_take
abbrev JU:=@Array.replicate_succ
abbrev JV:=@Array.replicate_zero
abbrev JW:=@Nat.sub_self
abbrev JX:=@Bool.and_true
abbrev JY:=@WideMaps.keyOf_string_mk
abbrev JZ:=@List.take_append_getElem
abbrev J0:=@Nat.lt_succ_iff_lt_or_eq
abbrev J1:=@List.append_toArray
abbrev J2:=@List.getElem_of_mem
abbrev J4:=@Array.eq_empty_of_size_eq_zero
abbrev J5:=@Bool.false_and
abbrev J6:=@List.any_eq_true
abbrev J7:=@heap_alloc_old
abbrev J8:=@Bool.not_eq_true
abbrev J9:=@Nat.le_of_lt
abbrev KE:=@Option.map_eq_some_iff
abbrev KH:=@heap_alloc2_new
abbrev KI:=@World.var?_cell
abbrev KJ:=@Addr.mk.injEq
abbrev KK:=@Sum.inl.injEq
abbrev KM:=@List.take_append_drop
abbrev KN:=@List.countP_mono_left
abbrev KO:=@List.countP_le_length
abbrev KP:=@List.push_toArray
abbrev KQ:=@Int.toNat_natCast
abbrev KT:=@World.cell?_of_block
abbrev KU:=@List.findIdx?_append
abbrev KV:=@List.flatMap_map
abbrev KZ:=@List.drop_eq_getElem_cons
abbrev LA:=@List.mem_of_find?_eq_some
abbrev LB:=@Array.length_toList
abbrev LC:=@List.mem_map_of_mem
abbrev LD:=@List.map_cons
abbrev LE:=@Nat.add_assoc
abbrev LF:=@Option.map_some
abbrev LG:=@Nat.min_eq_left
abbrev LH:=@of_decide_eq_false
abbrev LI:=@List.filter_append
abbrev LJ:=@List.findIdx?_cons
abbrev LK:=@Bool.not_eq_false'
abbrev LL:=@List.pairwise_singleton
abbrev LM:=@if_false
abbrev LN:=@true_and
abbrev LP:=@Nat.lt_of_succ_lt
abbrev LQ:=@List.map_nil
abbrev LR:=@Nat.lt_trichotomy
abbrev LU:=@run_convert_bytes_back
abbrev LV:=@Nat.zero_mul
abbrev LX:=@Maps.string_keyed
abbrev LY:=@UInt8.not_lt
abbrev LZ:=@List.getElem_drop
abbrev L8:=@List.getElem?_set_self
abbrev L9:=@List.set_set
abbrev MB:=@DataW.trod_int
abbrev MC:=@List.set_append_right
abbrev MG:=@World.frozen?_setCell
abbrev MH:=@List.length_filter_le
abbrev MJ:=@ownsRow_setCell_other
abbrev MK:=@ownsRow_setCell_below
abbrev MN:=@Nat.le_of_ble_eq_true
abbrev MO:=@List.cons_ne_nil
abbrev MP:=@beq_iff_eq
abbrev MQ:=@List.not_mem_nil
abbrev MR:=@List.ext_getElem
abbrev MU:=@Nat.le_add_right
abbrev MV:=@List.all_cons
abbrev MW:=@Bool.or_eq_false_iff
abbrev MX:=@IntKind.wrap_u8
abbrev MY:=@List.prefix_rfl
abbrev MZ:=@List.append_nil
abbrev M2:=@List.mem_filter
abbrev M9:=@beq_eq_false_iff_ne
abbrev NA:=@List.dropWhile_cons
abbrev NB:=@Nat.add_zero
abbrev NC:=@List.all_nil
abbrev ND:=@run_store
abbrev NE:=@Nat.mod_lt
abbrev NF:=@List.getElem?_take
abbrev NG:=@List.getElem?_drop
abbrev NH:=@Lib.frozen_of_heap
abbrev NI:=@List.prefix_append
abbrev NJ:=@ByteArray.ext
abbrev NK:=@List.take_set
theorem lr {n:Nat}:n<=n:=Nat.le_refl n
theorem ae {p:Prop}(h:p):Hid p:=h
theorem nzL {d:Type}:(∀ (l:List d) (i:Nat) (a:d),l.toArray.setIfInBounds i a=(l.set i a).toArray)/\(∀ (a b:d) (l:List d),(a :: l).set 0 b=b :: l)/\∀ (a b:d) (l:List d) (i:Nat),(a :: l).set (i+1) b=a :: l.set i b :=
 ⟨fun _ _ _=>List.setIfInBounds_toArray ..,fun _ _ _=>rfl,fun _ _ _ _=>rfl⟩
theorem EE {W d:E}(hb:Below W.heap.size W d):(∀ b o,b<W.heap.size->d.cell? (J b o Z)=W.cell? (J b o Z))/\(∀ b o,b<W.heap.size->d.frozen? (J b o Z)=W.frozen? (J b o Z)) :=
 ⟨fun b o h=>hb.cell (p:=(J b o Z)) h,fun b o h=>hb.frozen (p:=(J b o Z)) h⟩
theorem cell_far (w:E)(p a:Addr)(v:QB)(h:p.block≠a.block):(w.setCell p v).cell? a=w.cell? a :=
 World.cell?_of_block (w:=w) (a:=a) (Below.heap_setCell w p v a.block (fun e=>h e.symm))
theorem aW {a b:Bool}(h:a=b):Ending.returned (QA a)=QD (QA b):=by rw[h]
theorem fO {a b:ByteArray}(h:a=b):Ending.returned (U a)=QD (U b):=by rw[h]
theorem lw {s:ByteArray}(h:s.size=0):s=⟨#[]⟩:=by obtain⟨a⟩:=s;have:a.size=0:=h;rw[Array.eq_empty_of_size_eq_zero this]
theorem lG {s:ByteArray}(h:¬ s.size=0):¬ s.toList=[]:=by
 intro e;have h2:s.toList.length=s.size:=by rw[ByteArray.toList_eq];rfl
 rw[e] at h2;simp at h2;omega
structure Ins where
 op:Int
 s:ByteArray
 n:Int
def AtIns (w:E)(b off i:Nat)(x:Ins):Prop :=
 w.cell? (J b (off+i*3) Z)=Q (N I x.op)/\w.cell? (J b (off+i*3+1) Z)=Q (U x.s)/\w.cell? (J b (off+i*3+2) Z)=Q (N I x.n)
theorem AtIns.below {w f:E}{B b off i:Nat}{x:Ins}(h:AtIns w b off i x)(hb:Below B w f)(d:b<B):AtIns f b off i x :=
 ⟨(hb.cell (p:=(J b _ Z)) d).trans h.1,(hb.cell (p:=(J b _ Z)) d).trans h.2.1,(hb.cell (p:=(J b _ Z)) d).trans h.2.2⟩
def RowIns (w:E)(b off n:Nat)(f:Nat->Ins):Prop:=b<w.heap.size/\∀ i,i<n->AtIns w b off i (f i)
theorem RowIns.below {w d:E}{B b off n:Nat}{f:Nat->Ins}(h:RowIns w b off n f)(hb:Below B w d)(g:w.heap.size<=B):RowIns d b off n f :=
 ⟨Nat.lt_of_lt_of_le h.1 hb.size,fun i hi=>(h.2 i hi).below hb (Nat.lt_of_lt_of_le h.1 g)⟩
theorem RowIns.setOther {w:E}{g n off:Nat}{f:Nat->Ins}(h:RowIns w g off n f)(p:Addr)(b:p.block≠g)(v:QB):RowIns (w.setCell p v) g off n f:=by refine⟨by simpa using h.1,fun i hi=>?_⟩;have h:=h.2 i hi;have far:∀ o,(w.setCell p v).cell? (J g o Z)=w.cell? (J g o Z):=fun o=>World.cell?_of_block (w:=w) (a:=(J g o Z)) (Below.heap_setCell w p v g (fun e=>b e.symm));exact⟨(far _).trans h.1,(far _).trans h.2.1,(far _).trans h.2.2⟩
def SlIns (w:E)(a:Option Addr)(n:Nat)(f:Nat->Ins):Prop:=n=0∨∃ b off,a=Q (J b off Z)/\RowIns w b off n f
theorem SlIns.below {w d:E}{B:Nat}{a:Option Addr}{n:Nat}{f:Nat->Ins}(h:SlIns w a n f)(hb:Below B w d)(i:w.heap.size<=B):SlIns d a n f:=by
 rcases h with h | ⟨b,off,g,j⟩
 ·exact .inl h
 ·exact .inr ⟨b,off,g,j.below hb i⟩
theorem RowIns.sl {w:E}{b off n:Nat}{f:Nat->Ins}(h:RowIns w b off n f):SlIns w (Q (J b off Z)) n f:=.inr ⟨b,off,rfl,h⟩
theorem mx:(Tryz.prog.info? 188).map (fun i=>(i.zero,i.size,i.bytes))=Q (Q (QE #[N I 0,U ⟨#[]⟩,N I 0]),3,32):=by kernel_rfl
def kind:Int->Int
 | 1=>1 | 3=>2 | 4=>2 | 5=>2 | 10=>3 | 11=>3 | _=>0
def bP (op:Int):Int:=if op=1 then 2000 else 0
def dK (op:Int):Int:=if op=3∨op=4∨op=5 then 2000 else if op=10∨op=11 then 200 else 0
def cD (op:Int)(sz:Nat)(n:Int):Bool:=decide (1<=op/\op<=15/\(sz:Int)<=bP op/\0<=n/\n<=dK op)
theorem vJ (op:Int)(s:ByteArray)(n:Int)(w:E)(d:s.size<=maxLen)(hz:¬ s.toList=[])(h0:0<s.size):Calls Tryz.prog 166 #[QE #[N I op,U s,N I n]] w fun e f=>e=QD (QA (cD op s.size n))/\Below w.heap.size w f:=by
 unfold maxLen at d;by_cases h:1<=op/\op<=15
 ·have b:op=1∨op=2∨op=3∨op=4∨op=5∨op=6∨op=7∨op=8∨op=9∨op=10∨op=11∨op=12∨op=13∨op=14∨op=15:=by omega
  clear h;rcases b with rfl | rfl | rfl | rfl | rfl | rfl | rfl | rfl | rfl | rfl | rfl | rfl | rfl | rfl | rfl;all_goals
   go_enter Tryz.func166,Tryz.ntmps166;go_wp2;all_goals go_ret
   all_goals refine⟨aW ?_,(Below.refl _ _).alloc (Nat.le_refl _) _⟩
   all_goals (rw[Bool.eq_iff_iff];generalize s.size=z at *;simp[cD,bP,dK];try omega)
 ·rcases(show op<1∨15<op by omega) with h | h
  all_goals
   go_enter Tryz.func166,Tryz.ntmps166;go_wp2;go_ret;refine⟨aW ?_,(Below.refl _ _).alloc (Nat.le_refl _) _⟩;rw[Bool.eq_iff_iff];simp[cD];omega
theorem vK (op:Int)(n:Int)(w:E):Calls Tryz.prog 166 #[QE #[N I op,U ⟨#[]⟩,N I n]] w fun e b=>e=QD (QA (cD op 0 n))/\Below w.heap.size w b:=by
 by_cases h:1<=op/\op<=15
 ·have d:op=1∨op=2∨op=3∨op=4∨op=5∨op=6∨op=7∨op=8∨op=9∨op=10∨op=11∨op=12∨op=13∨op=14∨op=15:=by omega
  clear h;rcases d with rfl | rfl | rfl | rfl | rfl | rfl | rfl | rfl | rfl | rfl | rfl | rfl | rfl | rfl | rfl;all_goals
   go_enter Tryz.func166,Tryz.ntmps166;go_wp2;all_goals go_ret
   all_goals refine⟨aW ?_,(Below.refl _ _).alloc (Nat.le_refl _) _⟩
   all_goals (rw[Bool.eq_iff_iff];simp[cD,bP,dK];try omega)
 ·rcases(show op<1∨15<op by omega) with h | h
  all_goals
   go_enter Tryz.func166,Tryz.ntmps166;go_wp2;go_ret;refine⟨aW ?_,(Below.refl _ _).alloc (Nat.le_refl _) _⟩;rw[Bool.eq_iff_iff];simp[cD];omega
theorem tJ (op:Int)(s:ByteArray)(n:Int)(w:E)(b:s.size<=maxLen):Calls Tryz.prog 166 #[QE #[N I op,U s,N I n]] w fun e d=>e=QD (QA (cD op s.size n))/\Below w.heap.size w d:=by
 by_cases h:s.size=0
 ·have e:=lw h
  subst e;exact vK op n w
 ·exact vJ op s n w b (lG h) (by omega)
theorem vL (k:Nat)(s:ByteArray)(n mt b:Int)(w:E)(h1:1<=(k:Int))(h2:(k:Int)<=15)
  (hT:w.cell? (J 0 (k*5+1) Z)=Q (N I mt)) (hN:w.cell? (J 0 (k*5+2) Z)=Q (N I b)) (hz:0<w.heap.size)
  (ht:(s.size:Int)<=mt) (hn:0<=n) :
  Calls Tryz.prog 156 #[QE #[N I k,U s,N I n]] w fun e d=>e=QD (QA (decide (n<=b)))/\Below w.heap.size w d:=by
 go_enter Tryz.func156,Tryz.ntmps156;go_wp2;go_quiet (fail);go_wp2;go_ret;exact⟨rfl,below_drewN ((Below.refl _ _).alloc (Nat.le_refl _) _) _⟩
theorem vM (k:Nat)(s:ByteArray)(n mt:Int)(w:E)(h1:1<=(k:Int))(h2:(k:Int)<=15)
  (hT:w.cell? (J 0 (k*5+1) Z)=Q (N I mt)) (hz:0<w.heap.size)
  (ht:(s.size:Int)<=mt) (hn:n<0) :
  Calls Tryz.prog 156 #[QE #[N I k,U s,N I n]] w fun e b=>e=QD (QA D)/\Below w.heap.size w b:=by
 have hd:decide (0<=n)=D:=by simp;omega
 go_enter Tryz.func156,Tryz.ntmps156;go_wp2;go_quiet (fail);go_wp2;go_ret;exact⟨rfl,below_drewN ((Below.refl _ _).alloc (Nat.le_refl _) _) _⟩
theorem vN (k:Nat)(s:ByteArray)(n mt:Int)(w:E)(h1:1<=(k:Int))(h2:(k:Int)<=15)
  (hT:w.cell? (J 0 (k*5+1) Z)=Q (N I mt)) (hz:0<w.heap.size)
  (ht:mt<(s.size:Int)) :
  Calls Tryz.prog 156 #[QE #[N I k,U s,N I n]] w fun e b=>e=QD (QA D)/\Below w.heap.size w b:=by
 have hd:decide ((s.size:Int)<=mt)=D:=by simp;omega
 go_enter Tryz.func156,Tryz.ntmps156;go_wp2;go_quiet (fail);go_wp2;go_ret;exact⟨rfl,below_drewN ((Below.refl _ _).alloc (Nat.le_refl _) _) _⟩
theorem vO (op:Int)(s:ByteArray)(n:Int)(w:E)(h:op<1∨15<op):Calls Tryz.prog 156 #[QE #[N I op,U s,N I n]] w fun e b=>e=QD (QA D)/\Below w.heap.size w b:=by
 rcases h with h | h;all_goals
  go_enter Tryz.func156,Tryz.ntmps156;go_wp2;go_ret;exact⟨rfl,(Below.refl _ _).alloc (Nat.le_refl _) _⟩
def Tab (w:E):Prop:=0<w.heap.size/\∀ k:Nat,k<16->w.cell? (J 0 (k*5+1) Z)=Q (N I (bP k))/\w.cell? (J 0 (k*5+2) Z)=Q (N I (dK k))
theorem rp (op:Int)(s:ByteArray)(n:Int)(w:E)(d:Tab w):Calls Tryz.prog 156 #[QE #[N I op,U s,N I n]] w fun e l=>e=QD (QA (cD op s.size n))/\Below w.heap.size w l:=by
 by_cases h:1<=op/\op<=15
 ·obtain⟨k,rfl⟩:=Int.eq_ofNat_of_zero_le (show 0<=op by omega)
  obtain⟨h1,h2⟩:=h;obtain⟨f,j⟩:=d.2 k (by omega);by_cases b:(s.size:Int)<=bP k
  ·by_cases i:0<=n
   ·have e:cD (k:Int) s.size n=decide (n<=dK k):=by
     unfold cD;rw[Bool.eq_iff_iff,decide_eq_true_eq,decide_eq_true_eq];exact⟨fun h=>h.2.2.2.2,fun h=>⟨h1,h2,b,i,h⟩⟩
    rw[e];exact vL k s n _ _ w h1 h2 f j d.1 b i
   ·have e:cD (k:Int) s.size n=D:=by
     unfold cD;rw[decide_eq_false_iff_not];exact fun h=>i h.2.2.2.1
    rw[e];exact vM k s n _ w h1 h2 f d.1 b (by omega)
  ·have e:cD (k:Int) s.size n=D:=by
    unfold cD;rw[decide_eq_false_iff_not];exact fun h=>b h.2.2.1
   rw[e];exact vN k s n _ w h1 h2 f d.1 (by omega)
 ·have e:cD op s.size n=D:=by
   unfold cD;rw[decide_eq_false_iff_not];exact fun g=>h ⟨g.1,g.2.1⟩
  rw[e];exact vO op s n w (by omega)
def cQ (f:Nat->Ins):Nat->Bool
 | 0=>QC
 | k+1=>cQ f k && cD (f k).op (f k).s.size (f k).n
theorem pE {f:Nat->Ins}{k n:Nat}(h:k<=n)(b:cQ f n=QC):cQ f k=QC:=by
 induction n with
 | zero =>
  obtain rfl:k=0:=by omega
  exact b
 | succ m d =>
  by_cases e:k=m+1
  ·subst e;exact b
  ·simp only[cQ,Bool.and_eq_true] at b
   exact d (by omega) b.1
theorem nQ {f:Nat->Ins}{k n:Nat}(h:k<n)(b:cD (f k).op (f k).s.size (f k).n=D):cQ f n=D:=by
 cases e:cQ f n with
 | false=>rfl
 | true =>have h2:=pE (show k+1<=n by omega) e;simp[cQ,b] at h2
def valid (f:Nat->Ins)(n:Nat):Bool:=cQ f n && decide (1<=(n:Int)/\(n:Int)<=200)
theorem bY {f:Nat->Ins}{n:Nat}(h:valid f n=QC):cQ f n=QC/\1<=(n:Int)/\(n:Int)<=200:=by unfold valid at h;rw[Bool.and_eq_true,decide_eq_true_eq] at h;exact h
theorem jj {f:Nat->Ins}{k n:Nat}(h:cQ f n=QC)(hk:k<n):cD (f k).op (f k).s.size (f k).n=QC:=by have:=pE (show k+1<=n by omega) h;simp only[cQ,Bool.and_eq_true] at this;exact this.2
theorem fJ (b off n d:Nat)(f:Nat->Ins)(w:E)(hn:n<=1048576)(hb:b<w.heap.size)(u:∀ i,i<n->AtIns w b off i (f i))(t:∀ i,i<n->(f i).s.size<=maxLen):Calls Tryz.prog 85 #[QE #[Y (Q (J b off Z)) n d]] w fun e x=>e=QD (QA (valid f n))/\Below w.heap.size w x:=by
 have C:=ae u;have B:=ae t;clear u t;go_enter Tryz.func85,Tryz.ntmps85;go_wp2;go_loopw [3] (fun i wr=>∃ k:Nat,k<=n/\i=N I k/\cQ f k=QC/\Below (w.heap.size+1) (w.alloc (T #[Y (Q (J b off Z)) n d] 31)) wr) (fun i _=>n - (intOf i).toNat);case atStart=>exact⟨0,by omega,rfl,rfl,Below.refl _ _⟩
 case round =>
  obtain⟨k,hk,rfl,m,g⟩:=hrel;have A:=ae g;have r:=ae m;have y:wr.cell? (J w.heap.size 0 Z)=Q (Y (Q (J b off Z)) n d):=by rw[g.cell (p:=(J w.heap.size 0 Z)) (by simp)];simp
  have j:Hid (Below w.heap.size w wr):=((Below.refl _ _).alloc (Nat.le_refl _) _).trans (g.mono (by omega));have z:w.heap.size+1<=wr.heap.size:=by have:=g.size;simpa using this
  clear g m;by_cases h:k<n
  ·obtain⟨c0,c1,c2⟩:=(C k h).below j hb
   go_wp2_with fail;refine(tJ _ _ _ _ (B k h)).mono ?_;rintro e x ⟨rfl,o⟩;have l:=ae o;clear o c0 c1 c2 y;cases hi:cD (f k).op (f k).s.size (f k).n with
   | false =>have q:=ae hi;clear hi;go_wp2;go_ret;refine⟨aW ?_,j.trans (l.mono j.size)⟩;simp[valid,nQ h q.out]
   | true =>have q:=ae hi;clear hi;go_wp2;exact⟨⟨k+1,by omega,by go_num,by simp[cQ,r.out,q.out],A.trans (l.mono z)⟩,by simp[intOf];omega⟩
  ·have e:k=n:=by omega
   subst e;by_cases h1:1<=(k:Int)
   all_goals
    go_wp2;go_ret;refine⟨aW ?_,j⟩;rw[Bool.eq_iff_iff];simp[valid,r.out];try omega
theorem Tab.below {w f:E}{B:Nat}(h:Tab w)(hb:Below B w f)(d:0<B):Tab f :=
 ⟨Nat.lt_of_lt_of_le h.1 hb.size,fun k b=>⟨(hb.cell (p:=(J 0 _ Z)) d).trans (h.2 k b).1,(hb.cell (p:=(J 0 _ Z)) d).trans (h.2 k b).2⟩⟩
theorem lH (a:Option Addr)(n b:Nat)(f:Nat->Ins)(w:E)(hn:n<=1048576)(h:(n:Int)<1∨200<(n:Int)):Calls Tryz.prog 80 #[QE #[Y a n b]] w fun e d=>e=QD (QA (valid f n))/\Below w.heap.size w d:=by
 have e:valid f n=D:=by unfold valid;rw[show decide (1<=(n:Int)/\(n:Int)<=200)=D by simp;omega,Bool.and_false]
 rw[e];clear e;rcases h with h | h;all_goals
  go_enter Tryz.func80,Tryz.ntmps80;go_wp2;go_ret;exact⟨rfl,(Below.refl _ _).alloc (Nat.le_refl _) _⟩
theorem qA (b off n u:Nat)(f:Nat->Ins)(w:E)(h1:1<=(n:Int))(h2:(n:Int)<=200)(hb:b<w.heap.size)(x:∀ i,i<n->AtIns w b off i (f i))(r:Tab w):Calls Tryz.prog 80 #[QE #[Y (Q (J b off Z)) n u]] w fun e p=>e=QD (QA (valid f n))/\Below w.heap.size w p:=by
 have B:=ae x;have A:=ae r;have y:=r.1;have z:Hid (valid f n=cQ f n):=by show valid f n=cQ f n;unfold valid;rw[show decide (1<=(n:Int)/\(n:Int)<=200)=QC by simp;omega,Bool.and_true]
 clear x r;go_enter Tryz.func80,Tryz.ntmps80;go_wp2;go_loopw [18] (fun i wr=>∃ k:Nat,k<=n/\i=N I k/\cQ f k=QC/\Below w.heap.size w wr) (fun i _=>n - (intOf i).toNat);case atStart=>exact⟨0,by omega,rfl,rfl,(Below.refl _ _).alloc (Nat.le_refl _) _⟩
 case round =>
  obtain⟨k,hk,rfl,j,q⟩:=hrel;have d:=ae q;have t:=ae j;have m:w.heap.size<=wr.heap.size:=q.size;clear q j;by_cases h:k<n
  ·obtain⟨c0,c1,c2⟩:=(B k h).below d hb
   go_wp2_with fail;refine(rp _ _ _ _ (A.below (d.alloc m _) y)).mono ?_;rintro e p ⟨rfl,l⟩;have g:Hid (Below w.heap.size w p):=(d.alloc m _).trans (l.mono (by simp;omega));clear l c0 c1 c2;cases hi:cD (f k).op (f k).s.size (f k).n with
   | false =>have o:=ae hi;clear hi;go_wp2;go_ret;refine⟨aW ?_,g⟩;rw[z.out,nQ h o.out]
   | true =>have o:=ae hi;clear hi;go_wp2;exact⟨⟨k+1,by omega,by go_num,by simp[cQ,t.out,o.out],g⟩,by simp[intOf];omega⟩
  ·have e:k=n:=by omega
   subst e;go_wp2;go_ret;exact⟨aW (by rw[z.out,t.out]),d.out⟩
theorem qB (b off n d:Nat)(f:Nat->Ins)(w:E)(k:n<=1048576)(hb:b<w.heap.size)(j:∀ i,i<n->AtIns w b off i (f i))(g:Tab w):Calls Tryz.prog 80 #[QE #[Y (Q (J b off Z)) n d]] w fun e l=>e=QD (QA (valid f n))/\Below w.heap.size w l:=by
 by_cases h:(n:Int)<1∨200<(n:Int)
 ·exact lH _ n d f w k h
 ·exact qA b off n d f w (by omega) (by omega) hb j g
structure Only (b:Nat)(w w':E):Prop where
 os:w'.os=w.os
 tape:w'.tape=w.tape
 output:w'.output=w.output
 size:w.heap.size<=w'.heap.size
 block:∀ k,k<w.heap.size->k≠b->w'.heap[k]?=w.heap[k]?
 ty:∀ cs t fz,w.heap[b]?=Q (T cs t fz)->∃ cs',w'.heap[b]?=Q (T cs' t fz)
theorem Only.refl (b:Nat)(w:E):Only b w w:=⟨rfl,rfl,rfl,Nat.le_refl _,fun _ _ _=>rfl,fun d _ _ h=>⟨d,h⟩⟩
theorem aC {w:E}{i:Nat}{o:Obj}(h:w.heap[i]?=Q o):i<w.heap.size:=by
 rcases Nat.lt_or_ge i w.heap.size with b | b
 ·exact b
 ·rw[Array.getElem?_eq_none b] at h;cases h
theorem ee {w:E}{b j:Nat}{d:Array QB}{t:TypeId}{fz:Nat × Nat}(h:w.heap[b]?=Q (T d t fz))(v:QB):(w.setCell (J b j Z) v).heap[b]?=Q (T (d.setIfInBounds j v) t fz):=by simp only[World.setCell,Array.getElem?_modify,if_pos,h,Option.map_some];rfl
theorem Only.trans {b:Nat}{u v w:E}(h:Only b u v)(k:Only b v w):Only b u w :=
 ⟨k.os.trans h.os,k.tape.trans h.tape,k.output.trans h.output,Nat.le_trans h.size k.size,fun i hi d=>(k.block i (Nat.lt_of_lt_of_le hi h.size) d).trans (h.block i hi d),fun f t fz hb=>let ⟨cs1,h1⟩:=h.ty f t fz hb;k.ty cs1 t fz h1⟩
theorem Only.of_below {b:Nat}{w d:E}(h:Below w.heap.size w d):Only b w d:=⟨h.os,h.tape,h.output,h.size,fun i hi _=>h.block i hi,fun f _ _ hb=>⟨f,(h.block b (aC hb)).trans hb⟩⟩
theorem Only.drew {b:Nat}{u w:E}(h:Only b u w):Only b u w.drew:=h.trans (Only.of_below (Below.refl _ _).drew)
theorem Only.al {b:Nat}{u w:E}(h:Only b u w)(o:Obj):Only b u (w.alloc o):=h.trans (Only.of_below ((Below.refl _ _).alloc (Nat.le_refl _) _))
theorem Only.below {b B:Nat}{w d:E}(h:Only b w d)(hB:B<=b)(hw:B<=w.heap.size):Below B w d:=⟨h.os,h.tape,h.output,h.size,fun k hk=>h.block k (by omega) (by omega)⟩
theorem Only.cell {b:Nat}{w d:E}(h:Only b w d)(k o:Nat)(f:k<w.heap.size)(hb:k≠b):d.cell? (J k o Z)=w.cell? (J k o Z):=World.cell?_of_block (w:=w) (a:=(J k o Z)) (h.block k f hb)
theorem bZ {a w:E}{b:Nat}(h:Only b a w)(j:Nat)(v:QB):Only b a (w.setCell (J b j Z) v) :=
 h.trans ⟨rfl,rfl,rfl,by simp[World.setCell],fun k _ d=>Below.heap_setCell _ _ _ _ (by simpa using d),fun _ _ _ hb=>⟨_,ee hb v⟩⟩
theorem lI {P:Program}{fn:Func}{R:Ending->E->Prop}{a:Act}{w:E}(d:fn.results=#[])(b:a.defers=[])(hR:R (QD (.tuple #[])) w):bodyPost P fn R .normal a w :=
 bodyPost_end (v:=.tuple #[]) (by simp[results,d]) b hR
theorem oW {P:Program}{fn:Func}{R:Ending->E->Prop}{a:Act}{w:E}(d:fn.results=#[])(b:a.defers=[])(hR:R (QD (.tuple #[])) w):bodyPost P fn R .ret a w :=
 bodyPost_ret (v:=.tuple #[]) (by simp[results,d]) b hR
def Cs (w:E)(b n:Nat)(F:Nat->QB):Prop:=b<w.heap.size/\∀ j,j<n->w.cell? (J b j Z)=Q (F j)/\w.frozen? (J b j Z)=D
theorem Cs.below {w g:E}{B b n:Nat}{F:Nat->QB}(h:Cs w b n F)(hb:Below B w g)(f:b<B):Cs g b n F :=
 ⟨Nat.lt_of_lt_of_le h.1 hb.size,fun j d=>⟨(hb.cell (p:=(J b _ Z)) f).trans (h.2 j d).1,(hb.frozen (p:=(J b _ Z)) f).trans (h.2 j d).2⟩⟩
theorem Cs.set {w:E}{b n:Nat}{F G:Nat->QB}(h:Cs w b n F)(j:Nat)(v:QB)(g:∀ x,x<n->G x=if x=j then v else F x):Cs (w.setCell (J b j Z) v) b n G:=by
 refine⟨by simpa using h.1,fun x d=>⟨?_,?_⟩⟩
 ·rw[g x d]
  by_cases e:x=j
  ·subst e
   exact(World.cell?_setCell_same' _ _ _ (by rw[(h.2 x d).1];rfl)).trans (by simp)
  ·have f:((J b j Z):Addr)≠(J b x Z):=by
    intro q;exact e (by simpa using q.symm)
   exact(World.cell?_setCell_other _ _ _ _ f).trans ((h.2 x d).1.trans (by simp[e]))
 ·have:=(h.2 x d).2
  simpa using this
structure Turn where
 over:Bool
 code:Int
 text:ByteArray
 ask:Bool
 name:ByteArray
 steps:Int
def Turn.v (t:Turn):QB:=QE #[QA t.over,N I t.code,U t.text,QA t.ask,U t.name,N I t.steps]
def cK:Turn:=⟨D,0,⟨#[]⟩,D,⟨#[]⟩,0⟩
structure Mst where
 S:Nat->ByteArray
 size:Nat
 place:Int
 steps:Int
 looks:Int
 t:Turn
def Mst.F (b:QB)(m:Mst)(j:Nat):QB :=
 if j<50 then U (m.S j) else if j=50 then N I m.size else if j=51 then b else if j=52 then N I m.place else if j=53 then N I m.steps else if j=54 then N I m.looks
 else if j=55 then QA m.t.over else if j=56 then N I m.t.code else if j=57 then U m.t.text else if j=58 then QA m.t.ask else if j=59 then U m.t.name else if j=60 then N I m.t.steps else N I 0
def MAt (w:E)(b:Nat)(d:QB)(m:Mst):Prop:=Cs w b 61 (m.F d)
theorem MAt.below {w f:E}{B b:Nat}{d:QB}{m:Mst}(h:MAt w b d m)(hb:Below B w f)(g:b<B):MAt f b d m:=Cs.below h hb g
theorem MAt.lt {w:E}{b:Nat}{d:QB}{m:Mst}(h:MAt w b d m):b<w.heap.size:=h.1
theorem MAt.txt {w:E}{b:Nat}{f:QB}{m:Mst}(h:MAt w b f m)(j:Nat)(d:j<50):w.cell? (J b j Z)=Q (U (m.S j))/\w.frozen? (J b j Z)=D :=
 ⟨(h.2 j (by omega)).1.trans (by simp[Mst.F,d]),(h.2 j (by omega)).2⟩
theorem MAt.fld {w:E}{b:Nat}{f:QB}{m:Mst}(h:MAt w b f m)(j:Nat)(v:QB)(d:j<61)(g:m.F f j=v):w.cell? (J b j Z)=Q v/\w.frozen? (J b j Z)=D :=
 ⟨(h.2 j d).1.trans (by rw[g]),(h.2 j d).2⟩
def upd (S:Nat->ByteArray)(k:Nat)(t:ByteArray)(j:Nat):ByteArray:=if j=k then t else S j
theorem MAt.setTxt {w:E}{b:Nat}{d:QB}{m:Mst}(h:MAt w b d m)(k:Nat)(f:k<50)(t:ByteArray):MAt (w.setCell (J b k Z) (U t)) b d { m with S:=upd m.S k t } :=
 Cs.set h k _ (fun x _=>by
  by_cases e:x=k
  ·subst e;simp[Mst.F,f,upd]
  ·simp[Mst.F,upd,e])
theorem MAt.setSize {w:E}{b:Nat}{d:QB}{m:Mst}(h:MAt w b d m)(k:Nat)(z:Int)(hz:z=k):MAt (w.setCell (J b 50 Z) (N I z)) b d { m with size:=k }:=by
 subst hz
 exact Cs.set h 50 _ (fun x _=>by
  by_cases e:x=50
  ·subst e;simp[Mst.F]
  ·simp[Mst.F,e])
theorem MAt.setPlace {w:E}{b:Nat}{d:QB}{m:Mst}(h:MAt w b d m)(k:Int):MAt (w.setCell (J b 52 Z) (N I k)) b d { m with place:=k } :=
 Cs.set h 52 _ (fun x _=>by
  by_cases e:x=52
  ·subst e;simp[Mst.F]
  ·simp[Mst.F,e])
theorem MAt.setSteps {w:E}{b:Nat}{d:QB}{m:Mst}(h:MAt w b d m)(k:Int):MAt (w.setCell (J b 53 Z) (N I k)) b d { m with steps:=k } :=
 Cs.set h 53 _ (fun x _=>by
  by_cases e:x=53
  ·subst e;simp[Mst.F]
  ·simp[Mst.F,e])
theorem MAt.setLooks {w:E}{b:Nat}{d:QB}{m:Mst}(h:MAt w b d m)(k:Int):MAt (w.setCell (J b 54 Z) (N I k)) b d { m with looks:=k } :=
 Cs.set h 54 _ (fun x _=>by
  by_cases e:x=54
  ·subst e;simp[Mst.F]
  ·simp[Mst.F,e])
theorem MAt.set55 {w:E}{b:Nat}{d:QB}{m:Mst}(h:MAt w b d m)(x:Bool):MAt (w.setCell (J b 55 Z) (QA x)) b d { m with t:={ m.t with over:=x } } :=
 Cs.set h 55 _ (fun y hy=>by
  by_cases e:y=55
  ·subst e;simp[Mst.F]
  ·simp only[Mst.F,e,if_false])
theorem MAt.set56 {w:E}{b:Nat}{d:QB}{m:Mst}(h:MAt w b d m)(x:Int):MAt (w.setCell (J b 56 Z) (N I x)) b d { m with t:={ m.t with code:=x } } :=
 Cs.set h 56 _ (fun y hy=>by
  by_cases e:y=56
  ·subst e;simp[Mst.F]
  ·simp only[Mst.F,e,if_false])
theorem MAt.set57 {w:E}{b:Nat}{d:QB}{m:Mst}(h:MAt w b d m)(x:ByteArray):MAt (w.setCell (J b 57 Z) (U x)) b d { m with t:={ m.t with text:=x } } :=
 Cs.set h 57 _ (fun y hy=>by
  by_cases e:y=57
  ·subst e;simp[Mst.F]
  ·simp only[Mst.F,e,if_false])
theorem MAt.set58 {w:E}{b:Nat}{d:QB}{m:Mst}(h:MAt w b d m)(x:Bool):MAt (w.setCell (J b 58 Z) (QA x)) b d { m with t:={ m.t with ask:=x } } :=
 Cs.set h 58 _ (fun y hy=>by
  by_cases e:y=58
  ·subst e;simp[Mst.F]
  ·simp only[Mst.F,e,if_false])
theorem MAt.set59 {w:E}{b:Nat}{d:QB}{m:Mst}(h:MAt w b d m)(x:ByteArray):MAt (w.setCell (J b 59 Z) (U x)) b d { m with t:={ m.t with name:=x } } :=
 Cs.set h 59 _ (fun y hy=>by
  by_cases e:y=59
  ·subst e;simp[Mst.F]
  ·simp only[Mst.F,e,if_false])
theorem MAt.set60 {w:E}{b:Nat}{d:QB}{m:Mst}(h:MAt w b d m)(x:Int):MAt (w.setCell (J b 60 Z) (N I x)) b d { m with t:={ m.t with steps:=x } } :=
 Cs.set h 60 _ (fun y hy=>by
  by_cases e:y=60
  ·subst e;simp[Mst.F]
  ·simp only[Mst.F,e,if_false])
theorem MAt.setTurn {w:E}{b:Nat}{d:QB}{m:Mst}(h:MAt w b d m)(t:Turn):MAt ((((((w.setCell (J b 55 Z) (QA t.over)).setCell (J b 56 Z) (N I t.code)).setCell (J b 57 Z) (U t.text)).setCell (J b 58 Z) (QA t.ask)).setCell (J b 59 Z) (U t.name)).setCell (J b 60 Z) (N I t.steps)) b d { m with t:=t } :=
 (((((h.set55 t.over).set56 t.code).set57 t.text).set58 t.ask).set59 t.name).set60 t.steps
theorem MAt.turn {w:E}{b:Nat}{d:QB}{m:Mst}(h:MAt w b d m):(w.cell? (J b 55 Z)=Q (QA m.t.over)/\w.frozen? (J b 55 Z)=D)/\(w.cell? (J b 56 Z)=Q (N I m.t.code)/\w.frozen? (J b 56 Z)=D)/\(w.cell? (J b 57 Z)=Q (U m.t.text)/\w.frozen? (J b 57 Z)=D)/\(w.cell? (J b 58 Z)=Q (QA m.t.ask)/\w.frozen? (J b 58 Z)=D)/\(w.cell? (J b 59 Z)=Q (U m.t.name)/\w.frozen? (J b 59 Z)=D)/\(w.cell? (J b 60 Z)=Q (N I m.t.steps)/\w.frozen? (J b 60 Z)=D) :=
 ⟨h.fld 55 _ (by omega) (by simp[Mst.F]),h.fld 56 _ (by omega) (by simp[Mst.F]),h.fld 57 _ (by omega) (by simp[Mst.F]),h.fld 58 _ (by omega) (by simp[Mst.F]),h.fld 59 _ (by omega) (by simp[Mst.F]),h.fld 60 _ (by omega) (by simp[Mst.F])⟩
theorem Cj {a w:E}{b:Nat}(h:Only b a w)(t:Turn):Only b a ((((((w.setCell (J b 55 Z) (QA t.over)).setCell (J b 56 Z) (N I t.code)).setCell (J b 57 Z) (U t.text)).setCell (J b 58 Z) (QA t.ask)).setCell (J b 59 Z) (U t.name)).setCell (J b 60 Z) (N I t.steps)) :=
 bZ (bZ (bZ (bZ (bZ (bZ h _ _) _ _) _ _) _ _) _ _) _ _
theorem oX (b:Nat)(f:QB)(m:Mst)(t:ByteArray)(w:E)(hM:MAt w b f m)(g:m.size<50):Calls Tryz.prog 171 #[.pointer (Q (J b 0 Z)),U t] w fun e h=>e=QD (.tuple #[])/\MAt h b f { m with S:=upd m.S m.size t,size:=m.size+1 }/\Only b w h:=by have i:=ae hM;obtain⟨c0,z0⟩:=hM.fld 50 (N I m.size) (by omega) (by simp[Mst.F]);obtain⟨c1,z1⟩:=hM.txt m.size g;clear hM;go_enter Tryz.func171,Tryz.ntmps171;go_wp2;go_region_with fail;have d:=ae ((i.setTxt m.size g t).below (Below.refl _ _).drew (Nat.lt_succ_self _));clear c0 z0 c1 z1;obtain⟨c0,z0⟩:=d.fld 50 (N I m.size) (by omega) (by simp[Mst.F]);go_wp2;refine lI rfl rfl ?_;exact⟨rfl,d.setSize (m.size+1) _ (by simp),bZ (bZ (Only.refl _ _) _ _).drew _ _⟩
theorem jY (b:Nat)(f:QB)(m:Mst)(k:Nat)(w:E)(hM:MAt w b f m)(h:m.size=k+1)(j:k<50):Calls Tryz.prog 247 #[.pointer (Q (J b 0 Z))] w fun e g=>e=QD (U (m.S k))/\MAt g b f { m with size:=k }/\Only b w g:=by have i:=ae hM;obtain⟨c0,z0⟩:=hM.fld 50 (N I (k+1)) (by omega) (by simp[Mst.F,h]);clear hM;go_enter Tryz.func247,Tryz.ntmps247;go_wp2_with fail;have d:=ae (i.setSize k k rfl);obtain⟨c1,z1⟩:=d.txt k j;obtain⟨c2,z2⟩:=d.fld 50 (N I k) (by omega) (by simp[Mst.F]);clear c0 z0;go_region_with fail;go_wp2;go_ret;exact⟨rfl,d.below (Below.refl _ _).drew (Nat.lt_succ_self _),(bZ (Only.refl _ _) _ _).drew⟩
theorem jL (b:Nat)(d:QB)(m:Mst)(c:Int)(t:ByteArray)(w:E)(hM:MAt w b d m):Calls Tryz.prog 173 #[.pointer (Q (J b 0 Z)),N I c,U t] w fun e f=>e=QD (.tuple #[])/\MAt f b d { m with t:=⟨QC,c,t,D,⟨#[]⟩,m.steps⟩ }/\Only b w f:=by have g:=ae hM;obtain⟨c0,z0⟩:=hM.fld 53 (N I m.steps) (by omega) (by simp[Mst.F]);obtain⟨c5,z5⟩:=hM.fld 55 (QA m.t.over) (by omega) (by simp[Mst.F]);obtain⟨c6,z6⟩:=hM.fld 56 (N I m.t.code) (by omega) (by simp[Mst.F]);obtain⟨c7,z7⟩:=hM.fld 57 (U m.t.text) (by omega) (by simp[Mst.F]);obtain⟨c8,z8⟩:=hM.fld 58 (QA m.t.ask) (by omega) (by simp[Mst.F]);obtain⟨c9,z9⟩:=hM.fld 59 (U m.t.name) (by omega) (by simp[Mst.F]);obtain⟨c10,z10⟩:=hM.fld 60 (N I m.t.steps) (by omega) (by simp[Mst.F]);clear hM;go_enter Tryz.func173,Tryz.ntmps173;go_wp2;refine lI rfl rfl ?_;exact⟨rfl,g.setTurn ⟨QC,c,t,D,⟨#[]⟩,m.steps⟩,bZ (bZ (bZ (bZ (bZ (bZ (Only.refl _ _) _ _) _ _) _ _) _ _) _ _) _ _⟩
def aM (k:Nat):Nat:=if k=2∨k=6∨k=8 then 2 else if k=0∨k=1∨k=10∨15<k then 0 else 1
def bG (k:Nat):Nat:=if k=7∨k=8 then 2 else if k=0∨k=9∨k=10∨k=11∨13<k then 0 else 1
def Tab2 (w:E):Prop:=0<w.heap.size/\∀ k:Nat,k<16->w.cell? (J 0 (k*5+3) Z)=Q (N I (aM k))/\w.cell? (J 0 (k*5+4) Z)=Q (N I (bG k))
theorem Tab2.below {w f:E}{B:Nat}(h:Tab2 w)(hb:Below B w f)(d:0<B):Tab2 f :=
 ⟨Nat.lt_of_lt_of_le h.1 hb.size,fun k b=>⟨(hb.cell (p:=(J 0 _ Z)) d).trans (h.2 k b).1,(hb.cell (p:=(J 0 _ Z)) d).trans (h.2 k b).2⟩⟩
theorem bears_any (b:Nat)(f:QB)(m:Mst)(k:Nat)(w:E)(hM:MAt w b f m)(d:Tab2 w)(h1:1<=(k:Int))(h2:(k:Int)<=15)(hs:m.size<=50):Calls Tryz.prog 223 #[.pointer (Q (J b 0 Z)),N I k] w fun e g=>e=QD (QA (decide (aM k<=m.size/\m.size - aM k+bG k<=50)))/\Below w.heap.size w g:=by
 have hT0:=d.1;obtain⟨c0,z0⟩:=hM.fld 50 (N I m.size) (by omega) (by simp[Mst.F]);obtain⟨t0,t1⟩:=d.2 k (by omega);have k1:aM k<=2:=by unfold aM;split<;>(try split)<;>omega
 have k2:bG k<=2:=by unfold bG;split<;>(try split)<;>omega
 clear hM d;generalize aM k=x at *;generalize bG k=y at *;by_cases hx:x<=m.size
 ·go_enter Tryz.func223,Tryz.ntmps223
  go_wp2_with fail;go_quiet (fail);go_wp2;go_ret;refine⟨aW ?_,below_drewN (Below.refl _ _) _⟩;rw[Bool.eq_iff_iff];simp;omega
 ·go_enter Tryz.func223,Tryz.ntmps223
  go_wp2_with fail;go_quiet (fail);go_wp2_with fail;go_ret;refine⟨aW ?_,below_drewN (Below.refl _ _) _⟩;rw[Bool.eq_iff_iff];simp;omega
def cW (s:ByteArray):Nat->Bool
 | 0=>QC
 | k+1=>cW s k && (match s.data[k]? with | some c=>decide (33<=c.toNat/\c.toNat<=126) | none=>D)
def au (s:ByteArray):Bool:=decide (1<=s.size/\s.size<=60) && cW s s.size
theorem tK {s:ByteArray}{k n:Nat}(h:k<=n)(b:cW s n=QC):cW s k=QC:=by
 induction n with
 | zero =>
  obtain rfl:k=0:=by omega
  exact b
 | succ m d =>
  by_cases e:k=m+1
  ·subst e;exact b
  ·simp only[cW,Bool.and_eq_true] at b
   exact d (by omega) b.1
theorem gO {s:ByteArray}{k:Nat}(h:k<s.size):cW s (k+1)=(cW s k && decide (33<=s[k].toNat/\s[k].toNat<=126)):=by
 have e:s.data[k]?=Q s[k]:=by rw[Array.getElem?_eq_getElem h];rfl
 rw[cW,e]
theorem ew {s:ByteArray}{k:Nat}(h:k<s.size)(hk:¬ (33<=s[k].toNat/\s[k].toNat<=126)):cW s s.size=D:=by
 cases e:cW s s.size with
 | false=>rfl
 | true =>have h2:=tK (show k+1<=s.size by omega) e;rw[gO h] at h2;simp at h2;omega
theorem eO (s:ByteArray)(w:E):Calls Tryz.prog 87 #[U s] w fun e l=>e=QD (QA (au s))/\Below w.heap.size w l:=by
 by_cases h1:1<=(s.size:Int)
 ·by_cases h2:(s.size:Int)<=60
  ·have g:Hid (au s=cW s s.size):=by
    show au s=cW s s.size;unfold au;rw[show decide (1<=s.size/\s.size<=60)=QC by simp;omega,Bool.true_and]
   go_enter Tryz.func87,Tryz.ntmps87;go_wp2;go_loopw [14] (fun i wr=>∃ k:Nat,k<=s.size/\i=N I k/\cW s k=QC/\Below w.heap.size w wr) (fun i _=>s.size - (intOf i).toNat);case atStart=>exact⟨0,by omega,rfl,rfl,Below.refl _ _⟩
   case round =>
    obtain⟨k,hk,rfl,f,j⟩:=hrel;have d:=ae j;have h:=ae f;clear j f;by_cases b:k<s.size
    ·by_cases p1:33<=(s[k].toNat:Int)
     ·by_cases p2:(s[k].toNat:Int)<=126
      ·go_wp2
       exact⟨⟨k+1,by omega,by go_num,by rw[gO b,h.out];simp;omega,d⟩,by simp[intOf];omega⟩
      ·go_wp2
       go_ret;exact⟨aW (by rw[g.out,ew b (by omega)]),d⟩
     ·go_wp2
      go_ret;exact⟨aW (by rw[g.out,ew b (by omega)]),d⟩
    ·have e:k=s.size:=by omega
     subst e;go_wp2;go_ret;exact⟨aW (by rw[g.out,h.out]),d.out⟩
  ·have e:au s=D:=by
    unfold au;rw[show decide (1<=s.size/\s.size<=60)=D by simp;omega,Bool.false_and]
   rw[e];clear e;go_enter Tryz.func87,Tryz.ntmps87;go_wp2;go_ret;exact⟨rfl,Below.refl _ _⟩
 ·have e:au s=D:=by
   unfold au;rw[show decide (1<=s.size/\s.size<=60)=D by simp;omega,Bool.false_and]
  rw[e];clear e;go_enter Tryz.func87,Tryz.ntmps87;go_wp2;go_ret;exact⟨rfl,Below.refl _ _⟩
theorem cX (s:ByteArray)(w:E):Calls Tryz.prog 67 #[U s] w fun e l=>e=QD (QA (au s))/\Below w.heap.size w l:=by
 by_cases h1:1<=(s.size:Int)
 ·by_cases h2:(s.size:Int)<=60
  ·have g:Hid (au s=cW s s.size):=by
    show au s=cW s s.size;unfold au;rw[show decide (1<=s.size/\s.size<=60)=QC by simp;omega,Bool.true_and]
   go_enter Tryz.func67,Tryz.ntmps67;go_wp2;go_loopw [3] (fun i wr=>∃ k:Nat,k<=s.size/\i=N I k/\cW s k=QC/\Below w.heap.size w wr) (fun i _=>s.size - (intOf i).toNat);case atStart=>exact⟨0,by omega,rfl,rfl,Below.refl _ _⟩
   case round =>
    obtain⟨k,hk,rfl,f,j⟩:=hrel;have d:=ae j;have h:=ae f;clear j f;by_cases b:k<s.size
    ·by_cases p1:33<=(s[k].toNat:Int)
     ·by_cases p2:(s[k].toNat:Int)<=126
      ·go_wp2
       exact⟨⟨k+1,by omega,by go_num,by rw[gO b,h.out];simp;omega,d⟩,by simp[intOf];omega⟩
      ·go_wp2
       go_ret;exact⟨aW (by rw[g.out,ew b (by omega)]),d⟩
     ·go_wp2
      go_ret;exact⟨aW (by rw[g.out,ew b (by omega)]),d⟩
    ·have e:k=s.size:=by omega
     subst e;go_wp2;go_ret;exact⟨aW (by rw[g.out,h.out]),d.out⟩
  ·have e:au s=D:=by
    unfold au;rw[show decide (1<=s.size/\s.size<=60)=D by simp;omega,Bool.false_and]
   rw[e];clear e;go_enter Tryz.func67,Tryz.ntmps67;go_wp2;go_ret;exact⟨rfl,Below.refl _ _⟩
 ·have e:au s=D:=by
   unfold au;rw[show decide (1<=s.size/\s.size<=60)=D by simp;omega,Bool.false_and]
  rw[e];clear e;go_enter Tryz.func67,Tryz.ntmps67;go_wp2;go_ret;exact⟨rfl,Below.refl _ _⟩
structure aA where
 has:Bool
 code:Int
 text:ByteArray
def AtReply (w:E)(b off i:Nat)(x:aA):Prop :=
 w.cell? (J b (off+i*3) Z)=Q (QA x.has)/\w.cell? (J b (off+i*3+1) Z)=Q (N I x.code)/\w.cell? (J b (off+i*3+2) Z)=Q (U x.text)
theorem AtReply.below {w f:E}{B b off i:Nat}{x:aA}(h:AtReply w b off i x)(hb:Below B w f)(d:b<B):AtReply f b off i x :=
 ⟨(hb.cell (p:=(J b _ Z)) d).trans h.1,(hb.cell (p:=(J b _ Z)) d).trans h.2.1,(hb.cell (p:=(J b _ Z)) d).trans h.2.2⟩
def RowReply (w:E)(b off n:Nat)(f:Nat->aA):Prop:=b<w.heap.size/\∀ i,i<n->AtReply w b off i (f i)
theorem RowReply.below {w d:E}{B b off n:Nat}{f:Nat->aA}(h:RowReply w b off n f)(hb:Below B w d)(g:w.heap.size<=B):RowReply d b off n f :=
 ⟨Nat.lt_of_lt_of_le h.1 hb.size,fun i hi=>(h.2 i hi).below hb (Nat.lt_of_lt_of_le h.1 g)⟩
structure Source where
 name:ByteArray
 text:ByteArray
def AtSource (w:E)(b off i:Nat)(x:Source):Prop :=
 w.cell? (J b (off+i*2) Z)=Q (U x.name)/\w.cell? (J b (off+i*2+1) Z)=Q (U x.text)
theorem AtSource.below {w f:E}{B b off i:Nat}{x:Source}(h:AtSource w b off i x)(hb:Below B w f)(d:b<B):AtSource f b off i x :=
 ⟨(hb.cell (p:=(J b _ Z)) d).trans h.1,(hb.cell (p:=(J b _ Z)) d).trans h.2⟩
def RowSource (w:E)(b off n:Nat)(f:Nat->Source):Prop:=b<w.heap.size/\∀ i,i<n->AtSource w b off i (f i)
theorem RowSource.below {w d:E}{B b off n:Nat}{f:Nat->Source}(h:RowSource w b off n f)(hb:Below B w d)(g:w.heap.size<=B):RowSource d b off n f :=
 ⟨Nat.lt_of_lt_of_le h.1 hb.size,fun i hi=>(h.2 i hi).below hb (Nat.lt_of_lt_of_le h.1 g)⟩
def SlSource (w:E)(a:Option Addr)(n:Nat)(f:Nat->Source):Prop:=n=0∨∃ b off,a=Q (J b off Z)/\RowSource w b off n f
theorem SlSource.below {w d:E}{B:Nat}{a:Option Addr}{n:Nat}{f:Nat->Source}(h:SlSource w a n f)(hb:Below B w d)(i:w.heap.size<=B):SlSource d a n f:=by
 rcases h with h | ⟨b,off,g,j⟩
 ·exact .inl h
 ·exact .inr ⟨b,off,g,j.below hb i⟩
theorem ix:(Tryz.prog.info? 104).map (fun i=>(i.zero,i.size,i.bytes))=Q (Q (QE #[U ⟨#[]⟩,U ⟨#[]⟩]),2,32):=by kernel_rfl
structure Target where
 name:ByteArray
 actN:Nat
 act:Nat->Ins
def aS (x:Target):Prop:=x.actN<=1048576
def AtTarget (w:E)(b off i:Nat)(x:Target):Prop :=
 w.cell? (J b (off+i*2) Z)=Q (U x.name)/\(∃ a d,w.cell? (J b (off+i*2+1) Z)=Q (Y a x.actN d)/\SlIns w a x.actN x.act)
theorem AtTarget.below {w j:E}{B b off i:Nat}{x:Target}(h:AtTarget w b off i x)(hb:Below B w j)(d:w.heap.size<=B)(g:b<w.heap.size):AtTarget j b off i x:=by obtain⟨k,⟨a0,f,s0,r0⟩⟩:=h;refine⟨(hb.cell (p:=(J b _ Z)) (Nat.lt_of_lt_of_le g d)).trans k,⟨a0,f,(hb.cell (p:=(J b _ Z)) (Nat.lt_of_lt_of_le g d)).trans s0,r0.below hb d⟩⟩
def RowTarget (w:E)(b off n:Nat)(f:Nat->Target):Prop:=b<w.heap.size/\∀ i,i<n->AtTarget w b off i (f i)
theorem RowTarget.below {w d:E}{B b off n:Nat}{f:Nat->Target}(h:RowTarget w b off n f)(hb:Below B w d)(g:w.heap.size<=B):RowTarget d b off n f :=
 ⟨Nat.lt_of_lt_of_le h.1 hb.size,fun i hi=>(h.2 i hi).below hb g h.1⟩
def SlTarget (w:E)(a:Option Addr)(n:Nat)(f:Nat->Target):Prop:=n=0∨∃ b off,a=Q (J b off Z)/\RowTarget w b off n f
theorem SlTarget.below {w d:E}{B:Nat}{a:Option Addr}{n:Nat}{f:Nat->Target}(h:SlTarget w a n f)(hb:Below B w d)(i:w.heap.size<=B):SlTarget d a n f:=by
 rcases h with h | ⟨b,off,g,j⟩
 ·exact .inl h
 ·exact .inr ⟨b,off,g,j.below hb i⟩
theorem ft:(Tryz.prog.info? 108).map (fun i=>(i.zero,i.size,i.bytes))=Q (Q (QE #[U ⟨#[]⟩,Y Z 0 0]),2,40):=by kernel_rfl
def RowStr (w:E)(b off n:Nat)(f:Nat->ByteArray):Prop:=b<w.heap.size/\∀ i,i<n->w.cell? (J b (off+i) Z)=Q (U (f i))
theorem RowStr.below {w d:E}{B b off n:Nat}{f:Nat->ByteArray}(h:RowStr w b off n f)(hb:Below B w d)(g:w.heap.size<=B):RowStr d b off n f :=
 ⟨Nat.lt_of_lt_of_le h.1 hb.size,fun i hi=>(hb.cell (p:=(J b _ Z)) (Nat.lt_of_lt_of_le h.1 g)).trans (h.2 i hi)⟩
def SlStr (w:E)(a:Option Addr)(n:Nat)(f:Nat->ByteArray):Prop:=n=0∨∃ b off,a=Q (J b off Z)/\RowStr w b off n f
theorem SlStr.below {w d:E}{B:Nat}{a:Option Addr}{n:Nat}{f:Nat->ByteArray}(h:SlStr w a n f)(hb:Below B w d)(i:w.heap.size<=B):SlStr d a n f:=by
 rcases h with h | ⟨b,off,g,j⟩
 ·exact .inl h
 ·exact .inr ⟨b,off,g,j.below hb i⟩
theorem fW:(Tryz.prog.info? 9).map (fun i=>(i.zero,i.size,i.bytes))=Q (Q (U ⟨#[]⟩),1,16):=by kernel_rfl
theorem vP (f:Nat->Ins):valid f 0=D:=by simp[valid]
theorem lJ (a:Option Addr)(n d:Nat)(f:Nat->Ins)(w:E)(j:n<=1048576)(h:SlIns w a n f)(i:Tab w):Calls Tryz.prog 80 #[QE #[Y a n d]] w fun e k=>e=QD (QA (valid f n))/\Below w.heap.size w k:=by
 rcases h with rfl | ⟨b,off,rfl,g⟩
 ·exact lH a 0 d f w (by omega) (by simp)
 ·exact qB b off n d f w j g.1 g.2 i
theorem qC (a:Option Addr)(b:Nat)(f:Nat->Ins)(w:E):Calls Tryz.prog 85 #[QE #[Y a 0 b]] w fun e d=>e=QD (QA (valid f 0))/\Below w.heap.size w d:=by
 rw[vP];have g:=ae ((Below.refl w.heap.size w).alloc (Nat.le_refl _) (T #[Y a 0 b] 31));go_enter Tryz.func85,Tryz.ntmps85;go_wp2;go_loop [3] (fun i=>i=N I 0) (fun _=>0);case atStart=>rfl
 case round =>subst hrel;go_wp2;go_ret;exact⟨rfl,g⟩
theorem iS (a:Option Addr)(n d:Nat)(f:Nat->Ins)(w:E)(k:n<=1048576)(h:SlIns w a n f)(j:∀ i,i<n->(f i).s.size<=maxLen):Calls Tryz.prog 85 #[QE #[Y a n d]] w fun e l=>e=QD (QA (valid f n))/\Below w.heap.size w l:=by
 rcases h with rfl | ⟨b,off,rfl,g⟩
 ·exact qC a d f w
 ·exact fJ b off n d f w k g.1 g.2 j
structure Link where
 name:ByteArray
 ask:Bool
 has:Bool
 at_:Int
def AtLink (w:E)(b off i:Nat)(x:Link):Prop :=
 w.cell? (J b (off+i*4) Z)=Q (U x.name)/\w.cell? (J b (off+i*4+1) Z)=Q (QA x.ask)/\w.cell? (J b (off+i*4+2) Z)=Q (QA x.has)/\w.cell? (J b (off+i*4+3) Z)=Q (N I x.at_)
theorem AtLink.below {w f:E}{B b off i:Nat}{x:Link}(h:AtLink w b off i x)(hb:Below B w f)(d:b<B):AtLink f b off i x :=
 ⟨(hb.cell (p:=(J b _ Z)) d).trans h.1,(hb.cell (p:=(J b _ Z)) d).trans h.2.1,(hb.cell (p:=(J b _ Z)) d).trans h.2.2.1,(hb.cell (p:=(J b _ Z)) d).trans h.2.2.2⟩
def RowLink (w:E)(b off n:Nat)(f:Nat->Link):Prop:=b<w.heap.size/\∀ i,i<n->AtLink w b off i (f i)
theorem RowLink.below {w d:E}{B b off n:Nat}{f:Nat->Link}(h:RowLink w b off n f)(hb:Below B w d)(g:w.heap.size<=B):RowLink d b off n f :=
 ⟨Nat.lt_of_lt_of_le h.1 hb.size,fun i hi=>(h.2 i hi).below hb (Nat.lt_of_lt_of_le h.1 g)⟩
def SlLink (w:E)(a:Option Addr)(n:Nat)(f:Nat->Link):Prop:=n=0∨∃ b off,a=Q (J b off Z)/\RowLink w b off n f
theorem SlLink.below {w d:E}{B:Nat}{a:Option Addr}{n:Nat}{f:Nat->Link}(h:SlLink w a n f)(hb:Below B w d)(i:w.heap.size<=B):SlLink d a n f:=by
 rcases h with h | ⟨b,off,g,j⟩
 ·exact .inl h
 ·exact .inr ⟨b,off,g,j.below hb i⟩
theorem zB:(Tryz.prog.info? 64).map (fun i=>(i.zero,i.size,i.bytes))=Q (Q (QE #[U ⟨#[]⟩,QA D,QA D,N I 0]),4,32):=by kernel_rfl
structure aj where
 name:ByteArray
 kind:Int
 code:Int
 text:ByteArray
 actN:Nat
 act:Nat->Ins
 linksN:Nat
 links:Nat->Link
def gV (x:aj):Prop:=x.name.size<=maxLen/\x.text.size<=maxLen/\((x.actN:Int)<=9223372036854775807/\∀ j,j<x.actN->(x.act j).s.size<=maxLen)/\((x.linksN:Int)<=9223372036854775807/\∀ j,j<x.linksN->(x.links j).name.size<=maxLen)
def cY (x:aj):Prop:=x.actN<=1048576/\x.linksN<=1048576
def AtDeed (w:E)(b off i:Nat)(x:aj):Prop :=
 w.cell? (J b (off+i*6) Z)=Q (U x.name)/\w.cell? (J b (off+i*6+1) Z)=Q (N I x.kind)/\w.cell? (J b (off+i*6+2) Z)=Q (N I x.code)/\w.cell? (J b (off+i*6+3) Z)=Q (U x.text)/\(∃ a d,w.cell? (J b (off+i*6+4) Z)=Q (Y a x.actN d)/\SlIns w a x.actN x.act)/\(∃ a d,w.cell? (J b (off+i*6+5) Z)=Q (Y a x.linksN d)/\SlLink w a x.linksN x.links)
theorem AtDeed.below {w k:E}{B b off i:Nat}{x:aj}(h:AtDeed w b off i x)(hb:Below B w k)(d:w.heap.size<=B)(f:b<w.heap.size):AtDeed k b off i x:=by obtain⟨o,m,n,l,⟨a0,j,s0,r0⟩,⟨a1,g,s1,r1⟩⟩:=h;refine⟨(hb.cell (p:=(J b _ Z)) (Nat.lt_of_lt_of_le f d)).trans o,(hb.cell (p:=(J b _ Z)) (Nat.lt_of_lt_of_le f d)).trans m,(hb.cell (p:=(J b _ Z)) (Nat.lt_of_lt_of_le f d)).trans n,(hb.cell (p:=(J b _ Z)) (Nat.lt_of_lt_of_le f d)).trans l,⟨a0,j,(hb.cell (p:=(J b _ Z)) (Nat.lt_of_lt_of_le f d)).trans s0,r0.below hb d⟩,⟨a1,g,(hb.cell (p:=(J b _ Z)) (Nat.lt_of_lt_of_le f d)).trans s1,r1.below hb d⟩⟩
def RowDeed (w:E)(b off n:Nat)(f:Nat->aj):Prop:=b<w.heap.size/\∀ i,i<n->AtDeed w b off i (f i)
theorem RowDeed.below {w d:E}{B b off n:Nat}{f:Nat->aj}(h:RowDeed w b off n f)(hb:Below B w d)(g:w.heap.size<=B):RowDeed d b off n f :=
 ⟨Nat.lt_of_lt_of_le h.1 hb.size,fun i hi=>(h.2 i hi).below hb g h.1⟩
def SlDeed (w:E)(a:Option Addr)(n:Nat)(f:Nat->aj):Prop:=n=0∨∃ b off,a=Q (J b off Z)/\RowDeed w b off n f
theorem SlDeed.below {w d:E}{B:Nat}{a:Option Addr}{n:Nat}{f:Nat->aj}(h:SlDeed w a n f)(hb:Below B w d)(i:w.heap.size<=B):SlDeed d a n f:=by
 rcases h with h | ⟨b,off,g,j⟩
 ·exact .inl h
 ·exact .inr ⟨b,off,g,j.below hb i⟩
theorem zC:(Tryz.prog.info? 58).map (fun i=>(i.zero,i.size,i.bytes))=Q (Q (QE #[U ⟨#[]⟩,N I 0,N I 0,U ⟨#[]⟩,Y Z 0 0,Y Z 0 0]),6,96):=by kernel_rfl
theorem pF (x:aj)(a0:Option Addr)(d:Nat)(a1:Option Addr)(b:Nat)(w:E):Calls Tryz.prog 254 #[QE #[U x.name,N I x.kind,N I x.code,U x.text,Y a0 x.actN d,Y a1 x.linksN b]] w fun e j=>e=QD (QE #[QA (decide (¬ x.kind=2)),N I x.code,U x.text])/\Below w.heap.size w j:=by
 have i:=ae ((Below.refl w.heap.size w).alloc (Nat.le_refl _) (T #[U x.name,N I x.kind,N I x.code,U x.text,Y a0 x.actN d,Y a1 x.linksN b] 58));obtain⟨r,g⟩:∃ r,r=decide (¬ x.kind=2):=⟨_,rfl⟩
 rw[<-g];have h:=ae g;clear g;go_enter Tryz.func254,Tryz.ntmps254;by_cases f:x.kind=2
 ·obtain rfl:r=D:=by rw[h.out];simp[f]
  go_wp2
  exact bodyPost_ret (v:=QE #[QA D,N I x.code,U x.text]) (by simp[results,Tryz.results254,go_sem]) rfl ⟨rfl,by
   repeat (first | exact i | exact Below.refl _ _ | refine Below.alloc ?_ (by simp<;>omega) _)⟩
 ·obtain rfl:r=QC:=by rw[h.out];simp[f]
  go_wp2
  exact bodyPost_ret (v:=QE #[QA QC,N I x.code,U x.text]) (by simp[results,Tryz.results254,go_sem,f]) rfl ⟨rfl,by
   repeat (first | exact i | exact Below.refl _ _ | refine Below.alloc ?_ (by simp<;>omega) _)⟩
def dJ (f:Nat->aj)(p:Nat)(l:Link):Bool :=
 au l.name && (if l.ask=QC then !l.has && decide (0<=l.at_) && decide (l.at_<(p:Int)) && ((f l.at_.toNat).name.toList == l.name.toList) else decide (l.at_=0))
def bQ (f:Nat->aj)(p:Nat)(x:aj):Nat->Bool
 | 0=>QC
 | k+1=>bQ f p x k && dJ f p (x.links k)
def aO (x:aj):Bool:=decide (x.code=0) && decide (x.actN=0) && decide (x.linksN=0)
def ce (f:Nat->aj)(p:Nat)(x:aj):Bool:=decide (0<=x.code) && decide (x.code<=5) && valid x.act x.actN && decide (x.linksN<=200) && bQ f p x x.linksN
def kindOk (f:Nat->aj)(p:Nat)(x:aj):Bool :=
 if x.kind=1 then aO x else if x.kind=2 then aO x && decide (x.text.size=0) else if x.kind=3 then ce f p x else D
def bc (f:Nat->aj)(p:Nat):Bool:=au (f p).name && decide ((f p).text.size<=2000) && kindOk f p (f p)
def aQ (f:Nat->aj)(p:Nat):Nat->Bool
 | 0=>QC
 | k+1=>aQ f p k && !((f k).name.toList == (f p).name.toList)
def aJ (g:Nat->Bool):Nat->Int
 | 0=>-1
 | k+1=>if aJ g k=-1 then (if g k=QC then -1 else k) else aJ g k
theorem eh {g:Nat->Bool}{n:Nat}(h:∀ i,i<n->g i=QC):aJ g n=-1:=by
 induction n with
 | zero=>rfl
 | succ k b =>rw[aJ,if_pos (b fun i hi=>h i (by omega)),if_pos (h k (by omega))]
theorem iy {g:Nat->Bool}{n i:Nat}(hi:i<n)(b:g i=D)(h:∀ j,j<i->g j=QC):aJ g n=i:=by
 induction n with
 | zero=>omega
 | succ k d =>
  rw[aJ];by_cases e:i=k
  ·subst e
   rw[if_pos (eh h),if_neg (by rw[b];simp)]
  ·have:=d (by omega)
   rw[this,if_neg (by omega)]
theorem dW {g:Nat->Bool}{n:Nat}(h:aJ g n=-1):∀ i,i<n->g i=QC:=by
 induction n with
 | zero=>intro i hi;omega
 | succ k b =>
  rw[aJ] at h;split at h
  ·rename_i h1
   intro i hi;by_cases e:i=k
   ·subst e
    cases hg:g i with
    | true=>rfl
    | false=>rw[hg] at h;simp at h
   ·exact b h1 i (by omega)
  ·rename_i h1
   exact absurd h h1
theorem jZ {f:Nat->aj}{p:Nat}{x:aj}{n:Nat}(h:bQ f p x n=QC):∀ i,i<n->dJ f p (x.links i)=QC:=by
 induction n with
 | zero=>intro i hi;omega
 | succ k b =>
  simp only[bQ,Bool.and_eq_true] at h;intro i hi;by_cases e:i=k
  ·subst e;exact h.2
  ·exact b h.1 i (by omega)
def lks (go:Nat->Nat->(Nat->Bool)->(Nat->Bool) × List (Nat × Nat))(x:aj)(d:Nat)(s:Nat->Bool):Nat->(Nat->Bool) × List (Nat × Nat)
 | 0=>(s,[])
 | j+1=>if (x.links j).ask=QC/\(lks go x d s j).1 (x.links j).at_.toNat=D then ((go (x.links j).at_.toNat (d+1) (lks go x d s j).1).1,(lks go x d s j).2++(go (x.links j).at_.toNat (d+1) (lks go x d s j).1).2) else lks go x d s j
def put (s:Nat->Bool)(p:Nat):Nat->Bool:=fun q=>q == p || s q
def lst (f:Nat->aj):Nat->Nat->Nat->(Nat->Bool)->(Nat->Bool) × List (Nat × Nat)
 | 0,_,_,s=>(s,[])
 | k+1,p,d,s=>(put (lks (lst f k) (f p) d s (f p).linksN).1 p,(lks (lst f k) (f p) d s (f p).linksN).2++[(p,d)])
def fK (f:Nat->aj)(n:Nat):Prop:=∀ p,p<n->∀ i,i<(f p).linksN->((f p).links i).ask=QC->((f p).links i).at_.toNat<p/\0<=((f p).links i).at_
def cnt (s:Nat->Bool):Nat->Nat
 | 0=>0
 | k+1=>cnt s k+(if s k=QC then 1 else 0)
theorem Eb (s:Nat->Bool)(n:Nat):cnt s n<=n:=by
 induction n with
 | zero=>simp[cnt]
 | succ k ih=>rw[cnt];split<;>omega
theorem xK {s b:Nat->Bool}{n:Nat}(h:∀ q,q<n->s q=b q):cnt s n=cnt b n:=by
 induction n with
 | zero=>rfl
 | succ k d=>rw[cnt,cnt,d fun q hq=>h q (by omega),h k (by omega)]
theorem Co {s:Nat->Bool}{p n:Nat}(hp:p<n)(h:s p=D):cnt (put s p) n=cnt s n+1:=by
 induction n with
 | zero=>omega
 | succ k b =>
  rw[cnt,cnt];by_cases e:p=k
  ·subst e
   have h1:cnt (put s p) p=cnt s p:=xK fun q hq=>by simp[put];omega
   simp[h1,put,h]
  ·have h1:put s p k=s k:=by simp[put];omega
   rw[b (by omega),h1];omega
structure Lsd (n p d:Nat)(s:Nat->Bool)(r:(Nat->Bool) × List (Nat × Nat)):Prop where
 far:∀ q,p<q->r.1 q=s q
 old:∀ q,s q=QC->r.1 q=QC
 num:cnt r.1 n=cnt s n+r.2.length
 last:∃ o,r.2=o++[(p,d)]
 le:∀ x∈r.2,x.1<=p
theorem uA {f:Nat->aj}{n k p d:Nat}{s:Nat->Bool}(m:fK f n)(r:p<n)(go:∀ q d s,q<p->s q=D->Lsd n q d s (lst f k q d s)):∀ j,j<=(f p).linksN->(∀ q,p<=q->(lks (lst f k) (f p) d s j).1 q=s q)/\(∀ q,s q=QC->(lks (lst f k) (f p) d s j).1 q=QC)/\cnt (lks (lst f k) (f p) d s j).1 n=cnt s n+(lks (lst f k) (f p) d s j).2.length/\∀ x∈(lks (lst f k) (f p) d s j).2,x.1<p
 | 0,_=>⟨fun _ _=>rfl,fun _ h=>h,by simp[lks],by simp[lks]⟩
 | j+1,hj=>by
  obtain⟨h1,h2,l,t⟩:=uA (d:=d) (s:=s) m r go j (by omega);rw[lks];split
  ·rename_i o
   have u:=(m p r j (by omega) o.1).1;have g:=go _ (d+1) _ u o.2;refine⟨fun q i=>(g.far q (by omega)).trans (h1 q i),fun q i=>g.old q (h2 q i),?_,fun x b=>?_⟩
   ·show cnt (lst f k _ (d+1) _).1 n=_
    rw[g.num,l,List.length_append];omega
   ·rcases List.mem_append.1 b with b | b
    ·exact t x b
    ·have:=g.le x b
     omega
  ·exact⟨h1,h2,l,t⟩
theorem uB {f:Nat->aj}{n:Nat}(j:fK f n):∀ k p d s,p<k->p<n->s p=D->Lsd n p d s (lst f k p d s)
 | 0,_,_,_,h,_,_=>absurd h (Nat.not_lt_zero _)
 | k+1,p,d,s,hk,hn,g=>by
  obtain⟨h1,h2,m,o⟩:=uA (d:=d) (s:=s) j hn (fun q d s i g=>uB j k q d s (by omega) (by omega) g) (f p).linksN (Nat.le_refl _);have l:=(h1 p (Nat.le_refl _)).trans g;refine⟨fun q i=>?_,fun q i=>?_,?_,⟨_,rfl⟩,fun x b=>?_⟩
  ·show put _ p q=s q
   rw[put,h1 q (by omega)];simp;omega
  ·show put _ p q=QC
   rw[put,h2 q i];simp
  ·show cnt (put _ p) n=_
   rw[Co hn l,m];simp[lst,List.length_append];omega
  ·rcases List.mem_append.1 b with b | b
   ·exact Nat.le_of_lt (o x b)
   ·simp at b
    subst b;exact Nat.le_refl _
theorem uC {f:Nat->aj}{n:Nat}(g:fK f n):∀ k p d s q,p<n->p<q->lst f k p d (put s q)=(put (lst f k p d s).1 q,(lst f k p d s).2)
 | 0,_,_,_,_,_,_=>rfl
 | k+1,p,d,s,q,hn,hq=>by
  have i:∀ j,j<=(f p).linksN->lks (lst f k) (f p) d (put s q) j=(put (lks (lst f k) (f p) d s j).1 q,(lks (lst f k) (f p) d s j).2):=by
   intro j;induction j with
   | zero=>intro _;rfl
   | succ j m =>
    intro hj;have e:=m (by omega);rw[lks,lks,e];by_cases b:((f p).links j).ask=QC
    ·have ha:=(g p hn j (by omega) b).1
     have l:put (lks (lst f k) (f p) d s j).1 q ((f p).links j).at_.toNat=(lks (lst f k) (f p) d s j).1 ((f p).links j).at_.toNat:=by simp[put];omega
     simp only[l,b,true_and];split
     ·rw[uC g k _ (d+1) _ q (by omega) (by omega)]
     ·rfl
    ·rw[if_neg (fun h=>b h.1),if_neg (fun h=>b h.1)]
  have e:=i (f p).linksN (Nat.le_refl _);rw[lst,lst,e];simp only[Prod.mk.injEq,and_true];funext x;simp only[put];cases h1:x == p<;>cases h2:x == q<;>simp
def bz:Nat->List (Nat × Nat)->Int
 | _,[]=>-1
 | i,x :: xs=>if x.1=i then bz (i+1) xs else i
def aR (f:Nat->aj):List (Nat × Nat)->Int
 | []=>-1
 | x :: xs=>if (f x.1).kind=3/\60<=x.2 then x.1 else aR f xs
def aB (f:Nat->aj)(n:Nat):List (Nat × Nat):=(lst f n (n - 1) 0 (fun _=>D)).2
def dr (f:Nat->aj)(n:Nat):Int × Int :=
 if n=0∨400<n then (1,0) else
 if aJ (bc f) n≠-1 then (2,aJ (bc f) n) else
 if aJ (fun p=>aQ f p p) n≠-1 then (3,aJ (fun p=>aQ f p p) n) else
 if bz 0 (aB f n)≠-1 then (4,bz 0 (aB f n)) else
 if aR f (aB f n)≠-1 then (5,aR f (aB f n)) else (0,0)
theorem iT {f:Nat->aj}{n:Nat}(h:aJ (bc f) n=-1):fK f n:=by
 intro p b i hi g;have h1:=dW h p b;simp only[bc,Bool.and_eq_true,kindOk] at h1;obtain⟨_,h2⟩:=h1;split at h2
 ·simp[aO] at h2
  omega
 ·split at h2
  ·simp[aO] at h2
   omega
  ·split at h2
   ·simp only[ce,Bool.and_eq_true] at h2
    have d:=jZ h2.2 i hi;simp only[dJ,g,if_true,Bool.and_eq_true,decide_eq_true_eq] at d;omega
   ·cases h2
theorem tL (s:ByteArray)(w:E):Calls Tryz.prog 87 #[U s] w fun e l=>e=QD (QA (au s))/\l=w:=by
 by_cases h1:1<=(s.size:Int)
 ·by_cases h2:(s.size:Int)<=60
  ·have g:Hid (au s=cW s s.size):=by
    show au s=cW s s.size;unfold au;rw[show decide (1<=s.size/\s.size<=60)=QC by simp;omega,Bool.true_and]
   go_enter Tryz.func87,Tryz.ntmps87;go_wp2;go_loopw [14] (fun i wr=>∃ k:Nat,k<=s.size/\i=N I k/\cW s k=QC/\wr=w) (fun i _=>s.size - (intOf i).toNat);case atStart=>exact⟨0,by omega,rfl,rfl,rfl⟩
   case round =>
    obtain⟨k,hk,rfl,f,j⟩:=hrel;have d:=ae j;have h:=ae f;clear j f;by_cases b:k<s.size
    ·by_cases p1:33<=(s[k].toNat:Int)
     ·by_cases p2:(s[k].toNat:Int)<=126
      ·go_wp2
       exact⟨⟨k+1,by omega,by go_num,by rw[gO b,h.out];simp;omega,d⟩,by simp[intOf];omega⟩
      ·go_wp2
       go_ret;exact⟨aW (by rw[g.out,ew b (by omega)]),d⟩
     ·go_wp2
      go_ret;exact⟨aW (by rw[g.out,ew b (by omega)]),d⟩
    ·have e:k=s.size:=by omega
     subst e;go_wp2;go_ret;exact⟨aW (by rw[g.out,h.out]),d.out⟩
  ·have e:au s=D:=by
    unfold au;rw[show decide (1<=s.size/\s.size<=60)=D by simp;omega,Bool.false_and]
   rw[e];clear e;go_enter Tryz.func87,Tryz.ntmps87;go_wp2;go_ret;exact⟨rfl,rfl⟩
 ·have e:au s=D:=by
   unfold au;rw[show decide (1<=s.size/\s.size<=60)=D by simp;omega,Bool.false_and]
  rw[e];clear e;go_enter Tryz.func87,Tryz.ntmps87;go_wp2;go_ret;exact⟨rfl,rfl⟩
def j7 (x y:Ins):Bool:=x.op == y.op && x.s.toList == y.s.toList && x.n == y.n
def cU (f g:Nat->Ins):Nat->Bool
 | 0=>QC
 | k+1=>cU f g k && j7 (f k) (g k)
def cL (f g:Nat->Ins)(n m:Nat):Bool:=decide (n=m) && cU f g n
theorem nR {f g:Nat->Ins}{k n:Nat}(h:k<=n)(b:cU f g n=QC):cU f g k=QC:=by
 induction n with
 | zero =>
  obtain rfl:k=0:=by omega
  exact b
 | succ m d =>
  by_cases e:k=m+1
  ·subst e;exact b
  ·simp only[cU,Bool.and_eq_true] at b
   exact d (by omega) b.1
theorem mH {f g:Nat->Ins}{k n:Nat}(h:k<n)(b:j7 (f k) (g k)=D):cU f g n=D:=by
 cases e:cU f g n with
 | false=>rfl
 | true =>have h2:=nR (show k+1<=n by omega) e;simp[cU,b] at h2
def SBx (V:E)(b:Nat)(d f:QB):Prop:=V.heap[b]?=Q (T #[d,f] 26 (0,0))
theorem SBx.c0 {V:E}{b:Nat}{d v1:QB}(h:SBx V b d v1):V.cell? (J b 0 Z)=Q d:=by have f:V.heap[b]?=Q (T #[d,v1] 26 (0,0)):=h;simp[World.cell?,f]
theorem SBx.c1 {V:E}{b:Nat}{f d:QB}(h:SBx V b f d):V.cell? (J b 1 Z)=Q d:=by have g:V.heap[b]?=Q (T #[f,d] 26 (0,0)):=h;simp[World.cell?,g]
theorem SBx.below {V QJ:E}{b B:Nat}{f d:QB}(h:SBx V b f d)(hb:Below B V QJ)(g:V.heap.size<=B):SBx QJ b f d :=
 (hb.block b (Nat.lt_of_lt_of_le (aC h) g)).trans h
def PBx (V:E)(b:Nat)(d:QB):Prop:=V.heap[b]?=Q (T #[d] 31 (0,0))
theorem PBx.c0 {V:E}{b:Nat}{d:QB}(h:PBx V b d):V.cell? (J b 0 Z)=Q d:=by have f:V.heap[b]?=Q (T #[d] 31 (0,0)):=h;simp[World.cell?,f]
theorem PBx.below {V QJ:E}{b B:Nat}{d:QB}(h:PBx V b d)(hb:Below B V QJ)(f:V.heap.size<=B):PBx QJ b d :=
 (hb.block b (Nat.lt_of_lt_of_le (aC h) f)).trans h
structure PP (V:E)(pb g pm pc:Nat)(fp:Nat->Ins):Prop where
 p:PBx V pb (Y (Q (J g 0 Z)) pm pc)
 i:RowIns V g 0 pm fp
theorem PP.below {V QJ:E}{j g d b B:Nat}{f:Nat->Ins}(h:PP V j g d b f)(hb:Below B V QJ)(k:V.heap.size<=B):PP QJ j g d b f:=⟨h.p.below hb k,h.i.below hb k⟩
structure Result where
 code:Int
 text:ByteArray
 chainN:Nat
 chain:Nat->ByteArray
end Go.Proofs.YtkdimgejdocbbaaGreatDoor.Vp
