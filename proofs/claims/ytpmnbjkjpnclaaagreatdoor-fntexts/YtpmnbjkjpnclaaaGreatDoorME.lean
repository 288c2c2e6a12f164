import Derived.Test.YtpmnbjkjpnclaaaGreatDoorProg
import Derived.WalkKit
import Derived.WalkSpells
import Derived.WalkLawsBesides
import Derived.Deep.OwnRows
import Derived.Deep.RegionWith
import Derived.Deep.QuietTactic
import Derived.BigQuiet
set_option maxHeartbeats 1000000
open Go renaming Addr.mk->N,Value.slice->Y,Obj.cells->J,IntKind.i64->I,World->M,Value->ZB,TypeId->ZH,Ending.returned->ZD,World.heap->U,World.cell?->A,World.frozen?->z,Proofs.Tryz.prog->Pg
open Option renaming none->Z,some->T
open Bool renaming false->ZA,true->ZF
open Array renaming size->Q
namespace Go.Proofs.YtpmnbjkjpnclaaaGreatDoor.Vp
open Tryz RowKit
variable {w g W V u ZK:M}{b n off i p:Nat}{f:ZB}{a:Option Addr}{s:ByteArray}{t:ZH}{P:Nat->Prop}{fn:Func}{R:Ending->M->Prop}
theorem lj{a c:Nat}(h:a<b)(g:b<=c):a<c:=Nat.lt_of_lt_of_le h g
theorem BS (w:M):Below (Q (U w)) w w:=Below.refl _ _
theorem br{B:Nat}:Below B w w:=Below.refl _ _
abbrev sq:=@World.cell?_setCell_other
abbrev qh:=@Below.heap_setCell
abbrev bp:=@bodyPost_ret
abbrev gq:=@List.getElem?_eq_getElem
abbrev cq:=@World.cell?_of_block
abbrev bg:=@Below.grown
abbrev gz:=@List.getElem_mem
abbrev nj:=@List.not_mem_nil
abbrev mq:=@List.mem_cons_of_mem
abbrev cM:=@Below.refl
abbrev eL:=@List.length_append
abbrev eT:=@if_neg
abbrev gM:=@heap_alloc_new
abbrev hU:=@List.mem_singleton
abbrev nD:=@Nat.le_trans
abbrev nL:=@if_pos
abbrev nX:=@Nat.le_refl
abbrev p6:=@Bool.and_eq_true
abbrev p9:=@List.getElem?_eq_some_iff
abbrev xT:=@decide_eq_true_eq
abbrev AD:=@Nat.lt_succ_self
abbrev AI:=@IntKind.wrap_i64
abbrev AT:=@Int.eq_ofNat_of_zero_le
abbrev A9:=@congrArg
abbrev BC:=@List.mem_append
abbrev BG:=@List.length_cons
abbrev BO:=@List.mem_cons
abbrev CV:=@Nat.lt_of_lt_of_le
abbrev DN:=@World.cell?_setCell_same'
abbrev D0:=@List.length_singleton
abbrev ES:=@World.ownsRow_nil
abbrev E7:=@Array.getElem?_eq_some_iff
abbrev E9:=@below_drewN
abbrev IH:=@Nat.zero_le
abbrev IN:=@underlying9
abbrev IS:=@wpList_append_own
abbrev IT:=@Option.some.inj
abbrev JA:=@List.flatMap_append
abbrev JB:=@List.getD_eq_getElem?_getD
abbrev JC:=@Nat.zero_add
abbrev JD:=@underlying30
abbrev JE:=@Option.some.injEq
abbrev JF:=@List.mem_of_getElem?
abbrev JG:=@Value.slice.injEq
abbrev JH:=@Nat.le_succ
abbrev JI:=@Nat.not_lt_zero
abbrev JJ:=@List.length_nil
abbrev JK:=@World.frozen?_of_block
abbrev JL:=@Prod.mk.injEq
abbrev JM:=@List.getElem?_map
abbrev JN:=@List.length_set
abbrev JO:=@ByteArray.toList_eq
abbrev JP:=@List.getElem?_append_right
abbrev JQ:=@Array.getElem?_toList
abbrev JR:=@List.getElem?_eq_none
abbrev JS:=@List.map_append
abbrev JT:=@info_parts
abbrev JU:=@List.getElem?_append_left
abbrev JV:=@Array.getElem?_modify
abbrev JW:=@List.nil_append
abbrev JX:=@List.length_pos_iff
abbrev JY:=@decide_eq_false_iff_not
abbrev JZ:=@List.flatMap_cons
abbrev J0:=@underlying3
abbrev J4:=@List.mem_range
abbrev J5:=@List.mem_or_eq_of_mem_set
abbrev J6:=@List.length_drop
abbrev J7:=@Nat.lt_or_ge
abbrev J8:=@List.cons_append
abbrev J9:=@underlying25
abbrev KE:=@List.mem_append_left
abbrev KF:=@List.pairwise_iff_getElem
abbrev KH:=@List.mem_map
abbrev KI:=@List.take_of_length_le
abbrev KJ:=@World.ownsRow_made
abbrev KL:=@Nat.add_zero
abbrev KM:=@List.getElem?_set_self
abbrev KN:=@List.length_take
abbrev KO:=@ByteArray.size_append
abbrev KP:=@of_decide_eq_true
abbrev KQ:=@List.append_assoc
abbrev KT:=@List.pairwise_append
abbrev KU:=@Bool.eq_iff_iff
abbrev KV:=@List.range_succ
abbrev KZ:=@zeroValue9
abbrev LA:=@Array.getElem?_eq_none
abbrev LB:=@underlying5
abbrev LC:=@underlying4
abbrev LD:=@decide_eq_true
abbrev LE:=@zeroValue3
abbrev LF:=@List.getElem?_of_mem
abbrev LG:=@List.size_toArray
abbrev LH:=@underlying24
abbrev LI:=@List.length_map
abbrev LJ:=@zeroValue4
abbrev LK:=@List.mem_append_right
abbrev LL:=@Below.heap_setCell
abbrev LM:=@List.pairwise_cons
abbrev LN:=@List.mem_flatMap
abbrev LP:=@WideMaps.keyOf_string_mk
abbrev LQ:=@sizeOf9
abbrev LU:=@ntmps214
abbrev LV:=@Array.replicate_succ
abbrev LX:=@Array.replicate_zero
abbrev LZ:=@List.getElem?_set_ne
abbrev L8:=@underlying35
abbrev L9:=@underlying22
abbrev MB:=@Nat.min_eq_left
abbrev MC:=@results156
abbrev ME:=@Array.length_toList
abbrev MF:=@List.append_toArray
abbrev MG:=@Option.map_eq_some_iff
abbrev MJ:=@func214
abbrev MK:=@Addr.mk.injEq
abbrev ML:=@isAgg9
abbrev MN:=@underlying0
abbrev MO:=@Int.tmod_eq_emod_of_nonneg
abbrev MP:=@Array.toList_setIfInBounds
abbrev MQ:=@List.take_append_drop
abbrev MR:=@List.length_replicate
abbrev MS:=@List.findIdx?_eq_some_iff_getElem
abbrev MU:=@Classical.byContradiction
abbrev MV:=@List.findIdx?_eq_none_iff
abbrev MW:=@decide_eq_false
abbrev MX:=@zeroValue0
abbrev MY:=@results130
abbrev MZ:=@Maps.string_keyed
abbrev NA:=@List.push_toArray
abbrev NB:=@sizeOf4
abbrev ND:=@Bool.true_and
abbrev NE:=@Nat.lt_succ_iff_lt_or_eq
abbrev NF:=@Array.eq_empty_of_size_eq_zero
abbrev NG:=@isAgg4
abbrev NH:=@Nat.le_of_lt
abbrev NI:=@List.getElem?_take
abbrev NJ:=@sizeOf3
abbrev NK:=@underlying260
abbrev NL:=@List.mem_cons_self
abbrev NM:=@underlying169
abbrev NN:=@zeroValue5
abbrev NO:=@World.var?_cell
abbrev NP:=@results213
abbrev NQ:=@Value.slice.inj
abbrev NR:=@results106
abbrev NS:=@List.set_append_right
abbrev NT:=@List.countP_mono_left
abbrev NU:=@List.countP_le_length
abbrev NV:=@underlying21
abbrev NW:=@zeroValue260
abbrev NY:=@List.ext_getElem?
abbrev NZ:=@World.cell?_of_block
abbrev N5:=@Below.alloc
abbrev N9:=@Nat.mod_lt
abbrev OD:=@isAgg3
abbrev OH:=@results33
abbrev OJ:=@results34
abbrev ON:=@List.findIdx?_append
abbrev OR:=@List.cons_ne_nil
abbrev OT:=@List.any_eq_true
abbrev OU:=@Nat.zero_mul
abbrev OV:=@sizeOf0
abbrev PC:=@List.flatMap_map
abbrev PD:=@List.mem_of_find?_eq_some
abbrev PE:=@Decidable.byContradiction
abbrev PF:=@Bool.and_true
abbrev PH:=@ntmps109
abbrev PI:=@Option.map_some
abbrev PJ:=@beq_iff_eq
abbrev PK:=@of_decide_eq_false
abbrev PL:=@List.set_cons_succ
abbrev PM:=@List.filter_append
abbrev PO:=@List.findIdx?_cons
abbrev PQ:=@List.find?_eq_none
abbrev PR:=@Bool.not_eq_false'
abbrev PU:=@List.getElem?_cons_succ
abbrev PV:=@isAgg0
abbrev PX:=@List.length_eq_zero_iff
abbrev P0:=@List.pairwise_singleton
abbrev P2:=@if_false
abbrev P3:=@func109
abbrev P6:=@true_and
abbrev P7:=@Nat.lt_of_succ_lt
abbrev P9:=@List.map_nil
abbrev QA:=@Nat.lt_trichotomy
abbrev QB:=@List.lt_irrefl
abbrev QC:=@ntmps52
abbrev QD:=@ntmps51
abbrev QE:=@run_convert_bytes_back
abbrev QF:=@underlying41
abbrev QG:=@underlying44
abbrev QH:=@sizeOf5
abbrev QK:=@sizeOf260
abbrev QL:=@UInt8.not_lt
abbrev QN:=@results35
abbrev QO:=@List.set_set
abbrev QP:=@DataW.trod_int
abbrev QR:=@World.frozen?_setCell
abbrev QT:=@List.length_filter_le
abbrev QU:=@ownsRow_setCell_other
abbrev QV:=@ownsRow_setCell_below
abbrev QW:=@List.not_mem_nil
abbrev QX:=@zeroValue21
abbrev QY:=@zeroValue30
abbrev QZ:=@List.getElem_map
abbrev Q0:=@Nat.le_add_right
abbrev Q2:=@List.map_cons
abbrev Q3:=@isAgg260
abbrev Q9:=@List.all_cons
abbrev RC:=@func52
abbrev RF:=@func51
abbrev RH:=@or_false
abbrev RJ:=@List.set_append_left
abbrev RL:=@List.mem_of_mem_take
abbrev RP:=@wpList_mapUpdate_own
abbrev RU:=@isAgg5
abbrev RV:=@List.mem_iff_getElem
abbrev RY:=@Bool.or_eq_false_iff
abbrev RZ:=@results217
abbrev R8:=@IntKind.wrap_u8
abbrev SD:=@List.prefix_rfl
abbrev SE:=@results228
abbrev SF:=@results231
abbrev SG:=@results107
abbrev SH:=@List.getElem_of_mem
abbrev SJ:=@List.dropWhile_cons
abbrev SK:=@List.mem_map_of_mem
abbrev SL:=@Nat.le_of_eq
abbrev SN:=@callsIn_wide
abbrev SS:=@func331
abbrev SU:=@ntmps14
abbrev SV:=@ntmps48
abbrev SY:=@List.all_nil
abbrev SZ:=@Bool.false_and
abbrev TA:=@List.getElem?_drop
abbrev TC:=@Lib.frozen_of_heap
abbrev TF:=@Maps.has_put_other
abbrev TG:=@World.ownsMap_made
abbrev TH:=@underlying281
abbrev TI:=@List.prefix_append
abbrev TJ:=@underlying203
abbrev TM:=@Nat.add_sub_cancel
abbrev TP:=@underlying161
abbrev TQ:=@results44
abbrev TS:=@results54
abbrev TU:=@Int.le_refl
abbrev TV:=@func14
abbrev TW:=@func48
abbrev TX:=@ntmps145
abbrev TY:=@ntmps220
abbrev TZ:=@ntmps210
abbrev T0:=@ByteArray.ext
abbrev T1:=@List.take_set
abbrev T3:=@callsIn_of_wp
abbrev T8:=@sizeOf21
abbrev UB:=@sizeOf30
abbrev UC:=@Sum.inl.injEq
abbrev UE:=@Below.drew
abbrev UF:=@func3
theorem ly:n<=n:=Nat.le_refl n
theorem ae{p:Prop}(h:p):Hid p:=h
theorem nzL{f:Type}:(∀(l:List f) (i:Nat) (a:f),l.toArray.setIfInBounds i a=(l.set i a).toArray)/\(∀(a b:f) (l:List f),(a::l).set 0 b=b::l)/\∀(a b:f) (l:List f) (i:Nat),(a::l).set (i+1) b=a::l.set i b :=
 ⟨λ_ _ _=>List.setIfInBounds_toArray ..,λ_ _ _=>rfl,λ_ _ _ _=>rfl⟩
theorem Fl{f:M}(hb:Below (Q (U W)) W f):(∀b o,b<Q (U W)->A f (N b o Z)=A W (N b o Z))/\(∀b o,b<Q (U W)->z f (N b o Z)=z W (N b o Z)) :=
 ⟨λb o h=>hb.cell (p:=(N b o Z)) h,λb o h=>hb.frozen (p:=(N b o Z)) h⟩
theorem cell_far (w:M)(p a:Addr)(v:ZB)(h:p.block≠a.block):(w.setCell p v).cell? a=w.cell? a :=
 World.cell?_of_block (w:=w) (a:=a) (Below.heap_setCell w p v a.block (λe=>h e.symm))
theorem bq{a b:Bool}(h:a=b):Ending.returned (.bool a)=ZD (.bool b):=by rw[h]
theorem fw{a b:ByteArray}(h:a=b):Ending.returned (.string a)=ZD (.string b):=by rw[h]
theorem kE (h:s.size=0):s=⟨#[]⟩:=by obtain⟨a⟩:=s;have:a.size=0:=h;rw[Array.eq_empty_of_size_eq_zero this]
theorem kI (h:¬ s.size=0):¬ s.toList=[]:=by
 intro e;have h2:s.toList.length=s.size:=by rw[ByteArray.toList_eq];rfl
 rw[e] at h2;simp at h2;omega
theorem nb1{c:Array ZB}{s:ZH}(h:w.alloc (J c s)=W):Hid (Below (Q (U w)) w W)/\Hid (W.heap[Q (U w)]?=T (J c s (0,0)))/\(Q (U W))=Q (U w)+1:=by subst h;exact⟨(Below.refl (Q (U w)) w).alloc (Nat.le_refl _) _,heap_alloc_new w _,by simp⟩
theorem nb2{c d:Array ZB}{s:ZH}(h:(w.alloc (J c s)).alloc (J d t)=W):Hid (Below (Q (U w)) w W)/\Hid (W.heap[Q (U w)]?=T (J c s (0,0)))/\Hid (W.heap[Q (U w)+1]?=T (J d t (0,0)))/\(Q (U W))=Q (U w)+2:=by obtain⟨ZR,K,ZS⟩:=nb1 (w:=w) (c:=c) (s:=s) rfl;obtain⟨B,ZO,y⟩:=nb1 h;rw[ZS] at B ZO y;exact⟨Below.trans ZR.out (B.out.mono (by omega)),(B.out.block _ (by omega)).trans K.out,ZO,y⟩
theorem nb3{c d f:Array ZB}{s u:ZH}(h:((w.alloc (J c s)).alloc (J d t)).alloc (J f u)=W):Hid (Below (Q (U w)) w W)/\Hid (W.heap[Q (U w)]?=T (J c s (0,0)))/\Hid (W.heap[Q (U w)+1]?=T (J d t (0,0)))/\Hid (W.heap[Q (U w)+2]?=T (J f u (0,0)))/\(Q (U W))=Q (U w)+3:=by obtain⟨ZR,K,L,ZS⟩:=nb2 (w:=w) (c:=c) (d:=d) (s:=s) (t:=t) rfl;obtain⟨B,ZO,y⟩:=nb1 h;rw[ZS] at B ZO y;exact⟨Below.trans ZR.out (B.out.mono (by omega)),(B.out.block _ (by omega)).trans K.out,(B.out.block _ (by omega)).trans L.out,ZO,y⟩
theorem al3 (h:∀j,P j):P 0/\P 1/\P 2:=⟨h 0,h 1,h 2⟩
theorem al6 (h:∀j,P j):P 0/\P 1/\P 2/\P 3/\P 4/\P 5:=⟨h 0,h 1,h 2,h 3,h 4,h 5⟩
theorem bl6 (h:∀j,j<6->P j):P 0/\P 1/\P 2/\P 3/\P 4/\P 5:=⟨h 0 (by decide),h 1 (by decide),h 2 (by decide),h 3 (by decide),h 4 (by decide),h 5 (by decide)⟩
structure Ins where
 op:Int
 s:ByteArray
 n:Int
def AtIns (w:M)(b off i:Nat)(x:Ins):Prop :=
 A w (N b (off+i*3) Z)=T (.int I x.op)/\A w (N b (off+i*3+1) Z)=T (.string x.s)/\A w (N b (off+i*3+2) Z)=T (.int I x.n)
theorem AtIns.aa{B:Nat}{x:Ins}(h:AtIns w b off i x)(hb:Below B w g)(f:b<B):AtIns g b off i x :=
 ⟨(hb.cell (p:=(N b _ Z)) f).trans h.1,(hb.cell (p:=(N b _ Z)) f).trans h.2.1,(hb.cell (p:=(N b _ Z)) f).trans h.2.2⟩
def RowIns (w:M)(b off n:Nat)(f:Nat->Ins):Prop:=b<Q (U w)/\∀i,i<n->AtIns w b off i (f i)
theorem RowIns.aa{B:Nat}{f:Nat->Ins}(h:RowIns w b off n f)(hb:Below B w g)(j:Q (U w)<=B):RowIns g b off n f :=
 ⟨Nat.lt_of_lt_of_le h.1 hb.size,λi hi=>(h.2 i hi).aa hb (Nat.lt_of_lt_of_le h.1 j)⟩
theorem RowIns.setOther{g:Nat}{f:Nat->Ins}(h:RowIns w g off n f)(p:Addr)(b:p.block≠g)(v:ZB):RowIns (w.setCell p v) g off n f:=by refine⟨by simpa using h.1,λi hi=>?_⟩;have h:=h.2 i hi;have far:∀o,(w.setCell p v).cell? (N g o Z)=A w (N g o Z):=λo=>World.cell?_of_block (w:=w) (a:=(N g o Z)) (Below.heap_setCell w p v g (λe=>b e.symm));exact⟨(far _).trans h.1,(far _).trans h.2.1,(far _).trans h.2.2⟩
def SlIns (w:M)(a:Option Addr)(n:Nat)(f:Nat->Ins):Prop:=n=0∨∃b off,a=T (N b off Z)/\RowIns w b off n f
theorem SlIns.aa{B:Nat}{f:Nat->Ins}(h:SlIns w a n f)(hb:Below B w g)(l:Q (U w)<=B):SlIns g a n f:=by
 rcases h with h|⟨b,off,j,i⟩
 {exact .inl h};{exact .inr ⟨b,off,j,i.aa hb l⟩}
theorem RowIns.sl{f:Nat->Ins}(h:RowIns w b off n f):SlIns w (T (N b off Z)) n f:=.inr ⟨b,off,rfl,h⟩
theorem oQ:(Pg.info? 151).map (λi=>(i.zero,i.size,i.bytes))=T (T (.agg #[.int I 0,.string ⟨#[]⟩,.int I 0]),3,32):=by kernel_rfl
def kind:Int->Int
 |1=>1|3=>2|4=>2|5=>2|10=>3|11=>3|_=>0
def bF (op:Int):Int:=if op=1 then 2000 else 0
def dx (op:Int):Int:=if op=3∨op=4∨op=5 then 2000 else if op=10∨op=11 then 200 else 0
def b9 (op:Int)(sz:Nat)(n:Int):Bool:=decide (1<=op/\op<=15/\(sz:Int)<=bF op/\0<=n/\n<=dx op)
theorem vE (op:Int)(s:ByteArray)(n:Int)(w:M)(b:s.size<=maxLen)(hz:¬ s.toList=[])(h0:0<s.size):Calls Pg 145 #[.agg #[.int I op,.string s,.int I n]] w λe f=>e=ZD (.bool (b9 op s.size n))/\Below (Q (U w)) w f:=by
 unfold maxLen at b;by_cases h:1<=op/\op<=15
 ·have g:op=1∨op=2∨op=3∨op=4∨op=5∨op=6∨op=7∨op=8∨op=9∨op=10∨op=11∨op=12∨op=13∨op=14∨op=15:=by omega
  clear h;rcases g with rfl|rfl|rfl|rfl|rfl|rfl|rfl|rfl|rfl|rfl|rfl|rfl|rfl|rfl|rfl;all_goals
   go_enter func145,ntmps145;go_wp2;all_goals go_ret
   all_goals refine⟨bq ?_,(Below.refl _ _).alloc (Nat.le_refl _) _⟩
   all_goals (rw[Bool.eq_iff_iff];generalize s.size=ZS at *;simp[b9,bF,dx];try omega)
 ·rcases(show op<1∨15<op by omega) with h|h;all_goals
   go_enter func145,ntmps145;go_wp2;go_ret;refine⟨bq ?_,(Below.refl _ _).alloc (Nat.le_refl _) _⟩;rw[Bool.eq_iff_iff];simp[b9];omega
theorem vF (op:Int)(n:Int)(w:M):Calls Pg 145 #[.agg #[.int I op,.string ⟨#[]⟩,.int I n]] w λe b=>e=ZD (.bool (b9 op 0 n))/\Below (Q (U w)) w b:=by
 by_cases h:1<=op/\op<=15
 ·have f:op=1∨op=2∨op=3∨op=4∨op=5∨op=6∨op=7∨op=8∨op=9∨op=10∨op=11∨op=12∨op=13∨op=14∨op=15:=by omega
  clear h;rcases f with rfl|rfl|rfl|rfl|rfl|rfl|rfl|rfl|rfl|rfl|rfl|rfl|rfl|rfl|rfl;all_goals
   go_enter func145,ntmps145;go_wp2;all_goals go_ret
   all_goals refine⟨bq ?_,(Below.refl _ _).alloc (Nat.le_refl _) _⟩
   all_goals (rw[Bool.eq_iff_iff];simp[b9,bF,dx];try omega)
 ·rcases(show op<1∨15<op by omega) with h|h;all_goals
   go_enter func145,ntmps145;go_wp2;go_ret;refine⟨bq ?_,(Below.refl _ _).alloc (Nat.le_refl _) _⟩;rw[Bool.eq_iff_iff];simp[b9];omega
theorem tO (op:Int)(s:ByteArray)(n:Int)(w:M)(b:s.size<=maxLen):Calls Pg 145 #[.agg #[.int I op,.string s,.int I n]] w λe f=>e=ZD (.bool (b9 op s.size n))/\Below (Q (U w)) w f:=by
 by_cases h:s.size=0;{have e:=kE h;subst e;exact vF op n w};{exact vE op s n w b (kI h) (by omega)}
theorem vG (k:Nat)(s:ByteArray)(n mt b:Int)(w:M)(h1:1<=(k:Int))(h2:(k:Int)<=15)
  (hT:A w (N 1 (k*5+1) Z)=T (.int I mt)) (hN:A w (N 1 (k*5+2) Z)=T (.int I b)) (hz:1<Q (U w))
  (ht:(s.size:Int)<=mt) (hn:0<=n) :
  Calls Pg 220 #[.agg #[.int I k,.string s,.int I n]] w λe f=>e=ZD (.bool (decide (n<=b)))/\Below (Q (U w)) w f:=by
 go_enter func220,ntmps220;go_wp2;go_quiet (fail);go_wp2;go_ret;exact⟨rfl,below_drewN ((Below.refl _ _).alloc (Nat.le_refl _) _) _⟩
theorem vH (k:Nat)(s:ByteArray)(n mt:Int)(w:M)(h1:1<=(k:Int))(h2:(k:Int)<=15)
  (hT:A w (N 1 (k*5+1) Z)=T (.int I mt)) (hz:1<Q (U w))
  (ht:(s.size:Int)<=mt) (hn:n<0) :
  Calls Pg 220 #[.agg #[.int I k,.string s,.int I n]] w λe b=>e=ZD (.bool ZA)/\Below (Q (U w)) w b:=by
 have hd:decide (0<=n)=ZA:=by simp;omega
 go_enter func220,ntmps220;go_wp2;go_quiet (fail);go_wp2;go_ret;exact⟨rfl,below_drewN ((Below.refl _ _).alloc (Nat.le_refl _) _) _⟩
theorem vI (k:Nat)(s:ByteArray)(n mt:Int)(w:M)(h1:1<=(k:Int))(h2:(k:Int)<=15)
  (hT:A w (N 1 (k*5+1) Z)=T (.int I mt)) (hz:1<Q (U w))
  (ht:mt<(s.size:Int)) :
  Calls Pg 220 #[.agg #[.int I k,.string s,.int I n]] w λe b=>e=ZD (.bool ZA)/\Below (Q (U w)) w b:=by
 have hd:decide ((s.size:Int)<=mt)=ZA:=by simp;omega
 go_enter func220,ntmps220;go_wp2;go_quiet (fail);go_wp2;go_ret;exact⟨rfl,below_drewN ((Below.refl _ _).alloc (Nat.le_refl _) _) _⟩
theorem vJ (op:Int)(s:ByteArray)(n:Int)(w:M)(h:op<1∨15<op):Calls Pg 220 #[.agg #[.int I op,.string s,.int I n]] w λe b=>e=ZD (.bool ZA)/\Below (Q (U w)) w b:=by
 rcases h with h|h;all_goals
  go_enter func220,ntmps220;go_wp2;go_ret;exact⟨rfl,(Below.refl _ _).alloc (Nat.le_refl _) _⟩
def Tab (w:M):Prop:=1<Q (U w)/\∀k:Nat,k<16->A w (N 1 (k*5+1) Z)=T (.int I (bF k))/\A w (N 1 (k*5+2) Z)=T (.int I (dx k))
theorem ri (op:Int)(s:ByteArray)(n:Int)(w:M)(b:Tab w):Calls Pg 220 #[.agg #[.int I op,.string s,.int I n]] w λe l=>e=ZD (.bool (b9 op s.size n))/\Below (Q (U w)) w l:=by
 by_cases h:1<=op/\op<=15;{obtain⟨k,rfl⟩:=Int.eq_ofNat_of_zero_le (show 0<=op by omega);obtain⟨h1,h2⟩:=h;obtain⟨i,j⟩:=b.2 k (by omega);by_cases f:(s.size:Int)<=bF k;{by_cases hn:0<=n;{have e:b9 (k:Int) s.size n=decide (n<=dx k):=(by unfold b9;rw[Bool.eq_iff_iff,decide_eq_true_eq,decide_eq_true_eq];exact⟨λh=>h.2.2.2.2,λh=>⟨h1,h2,f,hn,h⟩⟩);rw[e];exact vG k s n _ _ w h1 h2 i j b.1 f hn};{have e:b9 (k:Int) s.size n=ZA:=(by unfold b9;rw[decide_eq_false_iff_not];exact λh=>hn h.2.2.2.1);rw[e];exact vH k s n _ w h1 h2 i b.1 f (by omega)}};{have e:b9 (k:Int) s.size n=ZA:=(by unfold b9;rw[decide_eq_false_iff_not];exact λh=>f h.2.2.1);rw[e];exact vI k s n _ w h1 h2 i b.1 (by omega)}};{have e:b9 op s.size n=ZA:=(by unfold b9;rw[decide_eq_false_iff_not];exact λg=>h ⟨g.1,g.2.1⟩);rw[e];exact vJ op s n w (by omega)}
def cX (f:Nat->Ins):Nat->Bool
 |0=>ZF
 |k+1=>cX f k && b9 (f k).op (f k).s.size (f k).n
theorem pK{f:Nat->Ins}{k:Nat}(h:k<=n)(hn:cX f n=ZF):cX f k=ZF:=by
 induction n with
 |zero =>
  obtain rfl:k=0:=by omega
  exact hn
 |succ m b =>
  by_cases e:k=m+1;{subst e;exact hn};{simp only[cX,Bool.and_eq_true] at hn;exact b (by omega) hn.1}
theorem nK{f:Nat->Ins}{k:Nat}(h:k<n)(b:b9 (f k).op (f k).s.size (f k).n=ZA):cX f n=ZA:=by
 cases e:cX f n with
 |false=>rfl
 |true =>have h2:=pK (show k+1<=n by omega) e;simp[cX,b] at h2
def valid (f:Nat->Ins)(n:Nat):Bool:=cX f n && decide (1<=(n:Int)/\(n:Int)<=200)
theorem bM{f:Nat->Ins}(h:valid f n=ZF):cX f n=ZF/\1<=(n:Int)/\(n:Int)<=200:=by unfold valid at h;rw[Bool.and_eq_true,decide_eq_true_eq] at h;exact h
theorem iU{f:Nat->Ins}{k:Nat}(h:cX f n=ZF)(hk:k<n):b9 (f k).op (f k).s.size (f k).n=ZF:=by have:=pK (show k+1<=n by omega) h;simp only[cX,Bool.and_eq_true] at this;exact this.2
theorem fl (b off n cap:Nat)(f:Nat->Ins)(w:M)(hn:n<=1048576)(hb:b<Q (U w))(t:∀i,i<n->AtIns w b off i (f i))(x:∀i,i<n->(f i).s.size<=maxLen):Calls Pg 92 #[.agg #[Y (T (N b off Z)) n cap]] w λe ZS=>e=ZD (.bool (valid f n))/\Below (Q (U w)) w ZS:=by
 have B:=ae t;have ZR:=ae x;clear t x;go_enter func92,ntmps92;go_wp2;go_loopw [3] (λi wr=>∃k:Nat,k<=n/\i=.int I k/\cX f k=ZF/\Below (Q (U w)+1) (w.alloc (J #[Y (T (N b off Z)) n cap] 43)) wr) (λi _=>n - (intOf i).toNat);case atStart=>exact⟨0,by omega,rfl,rfl,Below.refl _ _⟩
 case round =>
  obtain⟨k,hk,rfl,m,h⟩:=hrel;have C:=ae h;have r:=ae m;have y:A wr (N (Q (U w)) 0 Z)=T (Y (T (N b off Z)) n cap):=by rw[h.cell (p:=(N (Q (U w)) 0 Z)) (by simp)];simp
  have j:Hid (Below (Q (U w)) w wr):=((Below.refl _ _).alloc (Nat.le_refl _) _).trans (h.mono (by omega));have u:Q (U w)+1<=Q (U wr):=by have:=h.size;simpa using this
  clear h m;by_cases g:k<n
  ·obtain⟨c0,c1,c2⟩:=(B k g).aa j hb;go_wp2_with fail;refine(tO _ _ _ _ (ZR k g)).mono ?_;rintro e ZS ⟨rfl,l⟩;have o:=ae l;clear l c0 c1 c2 y;cases hi:b9 (f k).op (f k).s.size (f k).n with
   |false =>have q:=ae hi;clear hi;go_wp2;go_ret;refine⟨bq ?_,j.trans (o.mono j.size)⟩;simp[valid,nK g q.out]
   |true =>have q:=ae hi;clear hi;go_wp2;exact⟨⟨k+1,by omega,by go_num,by simp[cX,r.out,q.out],C.trans (o.mono u)⟩,by simp[intOf];omega⟩
  ·have e:k=n:=by omega
   subst e;by_cases h1:1<=(k:Int)
   all_goals
    go_wp2;go_ret;refine⟨bq ?_,j⟩;rw[Bool.eq_iff_iff];simp[valid,r.out];try omega
theorem Tab.aa{b:M}{B:Nat}(h:Tab w)(hb:Below B w b)(g:1<B):Tab b :=
 ⟨Nat.lt_of_lt_of_le h.1 hb.size,λk f=>⟨(hb.cell (p:=(N 1 _ Z)) g).trans (h.2 k f).1,(hb.cell (p:=(N 1 _ Z)) g).trans (h.2 k f).2⟩⟩
theorem kJ (a:Option Addr)(n cap:Nat)(f:Nat->Ins)(w:M)(hn:n<=1048576)(h:(n:Int)<1∨200<(n:Int)):Calls Pg 167 #[.agg #[Y a n cap]] w λe b=>e=ZD (.bool (valid f n))/\Below (Q (U w)) w b:=by
 have e:valid f n=ZA:=by unfold valid;rw[show decide (1<=(n:Int)/\(n:Int)<=200)=ZA by simp;omega,Bool.and_false]
 rw[e];clear e;rcases h with h|h;all_goals
  go_enter func167,ntmps167;go_wp2;go_ret;exact⟨rfl,(Below.refl _ _).alloc (Nat.le_refl _) _⟩
theorem qC (b off n cap:Nat)(f:Nat->Ins)(w:M)(h1:1<=(n:Int))(h2:(n:Int)<=200)(hb:b<Q (U w))(y:∀i,i<n->AtIns w b off i (f i))(p:Tab w):Calls Pg 167 #[.agg #[Y (T (N b off Z)) n cap]] w λe t=>e=ZD (.bool (valid f n))/\Below (Q (U w)) w t:=by
 have ZR:=ae y;have B:=ae p;have ZS:=p.1;have x:Hid (valid f n=cX f n):=by show valid f n=cX f n;unfold valid;rw[show decide (1<=(n:Int)/\(n:Int)<=200)=ZF by simp;omega,Bool.and_true]
 clear y p;go_enter func167,ntmps167;go_wp2;go_loopw [18] (λi wr=>∃k:Nat,k<=n/\i=.int I k/\cX f k=ZF/\Below (Q (U w)) w wr) (λi _=>n - (intOf i).toNat);case atStart=>exact⟨0,by omega,rfl,rfl,(Below.refl _ _).alloc (Nat.le_refl _) _⟩
 case round =>
  obtain⟨k,hk,rfl,m,r⟩:=hrel;have g:=ae r;have u:=ae m;have l:Q (U w)<=Q (U wr):=r.size;clear r m;by_cases j:k<n
  ·obtain⟨c0,c1,c2⟩:=(ZR k j).aa g hb;go_wp2_with fail;refine(ri _ _ _ _ (B.aa (g.alloc l _) ZS)).mono ?_;rintro e t ⟨rfl,h⟩;have o:Hid (Below (Q (U w)) w t):=(g.alloc l _).trans (h.mono (by simp;omega));clear h c0 c1 c2;cases hi:b9 (f k).op (f k).s.size (f k).n with
   |false =>have q:=ae hi;clear hi;go_wp2;go_ret;refine⟨bq ?_,o⟩;rw[x.out,nK j q.out]
   |true =>have q:=ae hi;clear hi;go_wp2;exact⟨⟨k+1,by omega,by go_num,by simp[cX,u.out,q.out],o⟩,by simp[intOf];omega⟩
  ·have e:k=n:=by omega
   subst e;go_wp2;go_ret;exact⟨bq (by rw[x.out,u.out]),g.out⟩
theorem qD (b off n cap:Nat)(f:Nat->Ins)(w:M)(hn:n<=1048576)(hb:b<Q (U w))(l:∀i,i<n->AtIns w b off i (f i))(g:Tab w):Calls Pg 167 #[.agg #[Y (T (N b off Z)) n cap]] w λe j=>e=ZD (.bool (valid f n))/\Below (Q (U w)) w j:=by
 by_cases h:(n:Int)<1∨200<(n:Int)
 {exact kJ _ n cap f w hn h};{exact qC b off n cap f w (by omega) (by omega) hb l g}
structure Only (b:Nat)(w w':M):Prop where
 os:w'.os=w.os
 tape:w'.tape=w.tape
 output:w'.output=w.output
 size:Q (U w)<=Q (U w')
 block:∀k,k<Q (U w)->k≠b->w'.heap[k]?=w.heap[k]?
 ty:∀cs t fz,w.heap[b]?=T (J cs t fz)->∃cs',w'.heap[b]?=T (J cs' t fz)
theorem Only.refl (b:Nat)(w:M):Only b w w:=⟨rfl,rfl,rfl,Nat.le_refl _,λ_ _ _=>rfl,λf _ _ h=>⟨f,h⟩⟩
theorem ar{o:Obj}(h:w.heap[i]?=T o):i<Q (U w):=by
 rcases Nat.lt_or_ge i (Q (U w)) with b|b;{exact b};{rw[Array.getElem?_eq_none b] at h;cases h}
theorem bJ{j:Nat}{f:Array ZB}{fz:Nat × Nat}(h:w.heap[b]?=T (J f t fz))(v:ZB):(w.setCell (N b j Z) v).heap[b]?=T (J (f.setIfInBounds j v) t fz):=by simp only[World.setCell,Array.getElem?_modify,if_pos,h,Option.map_some];rfl
theorem Only.trans{v:M}(h:Only b u v)(k:Only b v w):Only b u w :=
 ⟨k.os.trans h.os,k.tape.trans h.tape,k.output.trans h.output,Nat.le_trans h.size k.size,λi hi f=>(k.block i (Nat.lt_of_lt_of_le hi h.size) f).trans (h.block i hi f),λg t fz hb=>let ⟨cs1,h1⟩:=h.ty g t fz hb;k.ty cs1 t fz h1⟩
theorem Only.q{f:M}(h:Below (Q (U w)) w f):Only b w f:=⟨h.os,h.tape,h.output,h.size,λi hi _=>h.block i hi,λg _ _ hb=>⟨g,(h.block b (ar hb)).trans hb⟩⟩
theorem Only.drew (h:Only b u w):Only b u w.drew:=h.trans (Only.q (Below.refl _ _).drew)
theorem Only.al (h:Only b u w)(o:Obj):Only b u (w.alloc o):=h.trans (Only.q ((Below.refl _ _).alloc (Nat.le_refl _) _))
theorem Only.aa{B:Nat}{f:M}(h:Only b w f)(hB:B<=b)(hw:B<=Q (U w)):Below B w f:=⟨h.os,h.tape,h.output,h.size,λk hk=>h.block k (by omega) (by omega)⟩
theorem Only.cell{f:M}(h:Only b w f)(k o:Nat)(g:k<Q (U w))(hb:k≠b):A f (N k o Z)=A w (N k o Z):=World.cell?_of_block (w:=w) (a:=(N k o Z)) (h.block k g hb)
theorem bO{a:M}(h:Only b a w)(j:Nat)(v:ZB):Only b a (w.setCell (N b j Z) v) :=
 h.trans ⟨rfl,rfl,rfl,by simp[World.setCell],λk _ f=>Below.heap_setCell _ _ _ _ (by simpa using f),λ_ _ _ hb=>⟨_,bJ hb v⟩⟩
theorem kK{P:Program}{a:Act}(f:fn.results=#[])(b:a.defers=[])(hR:R (ZD (.tuple #[])) w):bodyPost P fn R .normal a w :=
 bodyPost_end (v:=.tuple #[]) (by simp[results,f]) b hR
theorem oR{P:Program}{a:Act}(f:fn.results=#[])(b:a.defers=[])(hR:R (ZD (.tuple #[])) w):bodyPost P fn R .ret a w :=
 bodyPost_ret (v:=.tuple #[]) (by simp[results,f]) b hR
def Cs (w:M)(b n:Nat)(F:Nat->ZB):Prop:=b<Q (U w)/\∀j,j<n->A w (N b j Z)=T (F j)/\z w (N b j Z)=ZA
theorem Cs.aa{i:M}{B:Nat}{F:Nat->ZB}(h:Cs w b n F)(hb:Below B w i)(g:b<B):Cs i b n F :=
 ⟨Nat.lt_of_lt_of_le h.1 hb.size,λj f=>⟨(hb.cell (p:=(N b _ Z)) g).trans (h.2 j f).1,(hb.frozen (p:=(N b _ Z)) g).trans (h.2 j f).2⟩⟩
theorem Cs.set{F G:Nat->ZB}(h:Cs w b n F)(j:Nat)(v:ZB)(i:∀x,x<n->G x=if x=j then v else F x):Cs (w.setCell (N b j Z) v) b n G:=by
 refine⟨by simpa using h.1,λx f=>⟨?_,?_⟩⟩;{rw[i x f];by_cases e:x=j;{subst e;exact(World.cell?_setCell_same' _ _ _ (by rw[(h.2 x f).1];rfl)).trans (by simp)};{have g:((N b j Z):Addr)≠(N b x Z):=(by intro q;exact e (by simpa using q.symm));exact(World.cell?_setCell_other _ _ _ _ g).trans ((h.2 x f).1.trans (by simp[e]))}};{have:=(h.2 x f).2;simpa using this}
structure Turn where
 ak:Bool
 E:Int
 y:ByteArray
 ask:Bool
 e:ByteArray
 g:Int
def Turn.v (t:Turn):ZB:=.agg #[.bool t.ak,.int I t.E,.string t.y,.bool t.ask,.string t.e,.int I t.g]
def cG:Turn:=⟨ZA,0,⟨#[]⟩,ZA,⟨#[]⟩,0⟩
structure Mst where
 S:Nat->ByteArray
 size:Nat
 aq:Int
 g:Int
 looks:Int
 t:Turn
def Mst.F (b:ZB)(m:Mst)(j:Nat):ZB :=
 if j<50 then .string (m.S j) else if j=50 then .int I m.size else if j=51 then b else if j=52 then .int I m.aq else if j=53 then .int I m.g else if j=54 then .int I m.looks
 else if j=55 then .bool m.t.ak else if j=56 then .int I m.t.E else if j=57 then .string m.t.y else if j=58 then .bool m.t.ask else if j=59 then .string m.t.e else if j=60 then .int I m.t.g else .int I 0
def MAt (w:M)(b:Nat)(f:ZB)(m:Mst):Prop:=Cs w b 61 (m.F f)
theorem MAt.aa{B:Nat}{m:Mst}(h:MAt w b f m)(hb:Below B w g)(i:b<B):MAt g b f m:=Cs.aa h hb i
theorem MAt.lt{m:Mst}(h:MAt w b f m):b<Q (U w):=h.1
theorem MAt.txt{m:Mst}(h:MAt w b f m)(j:Nat)(g:j<50):A w (N b j Z)=T (.string (m.S j))/\z w (N b j Z)=ZA :=
 ⟨(h.2 j (by omega)).1.trans (by simp[Mst.F,g]),(h.2 j (by omega)).2⟩
theorem MAt.am{m:Mst}(h:MAt w b f m)(j:Nat)(v:ZB)(g:j<61)(i:m.F f j=v):A w (N b j Z)=T v/\z w (N b j Z)=ZA :=
 ⟨(h.2 j g).1.trans (by rw[i]),(h.2 j g).2⟩
def upd (S:Nat->ByteArray)(k:Nat)(t:ByteArray)(j:Nat):ByteArray:=if j=k then t else S j
theorem MAt.setTxt{m:Mst}(h:MAt w b f m)(k:Nat)(g:k<50)(t:ByteArray):MAt (w.setCell (N b k Z) (.string t)) b f { m with S:=upd m.S k t } :=
 Cs.set h k _ (λx _=>by
  by_cases e:x=k
  ·subst e;simp[Mst.F,g,upd]
  ·simp[Mst.F,upd,e])
theorem MAt.setSize{m:Mst}(h:MAt w b f m)(k:Nat)(ZS:Int)(hz:ZS=k):MAt (w.setCell (N b 50 Z) (.int I ZS)) b f { m with size:=k }:=by
 subst hz
 exact Cs.set h 50 _ (λx _=>by
  by_cases e:x=50;{subst e;simp[Mst.F]}
  ·simp[Mst.F,e])
theorem MAt.setPlace{m:Mst}(h:MAt w b f m)(k:Int):MAt (w.setCell (N b 52 Z) (.int I k)) b f { m with aq:=k } :=
 Cs.set h 52 _ (λx _=>by
  by_cases e:x=52
  ·subst e;simp[Mst.F]
  ·simp[Mst.F,e])
theorem MAt.setSteps{m:Mst}(h:MAt w b f m)(k:Int):MAt (w.setCell (N b 53 Z) (.int I k)) b f { m with g:=k } :=
 Cs.set h 53 _ (λx _=>by
  by_cases e:x=53
  ·subst e;simp[Mst.F]
  ·simp[Mst.F,e])
theorem MAt.setLooks{m:Mst}(h:MAt w b f m)(k:Int):MAt (w.setCell (N b 54 Z) (.int I k)) b f { m with looks:=k } :=
 Cs.set h 54 _ (λx _=>by
  by_cases e:x=54
  ·subst e;simp[Mst.F]
  ·simp[Mst.F,e])
theorem MAt.set55{m:Mst}(h:MAt w b f m)(x:Bool):MAt (w.setCell (N b 55 Z) (.bool x)) b f { m with t:={ m.t with ak:=x } } :=
 Cs.set h 55 _ (λy hy=>by
  by_cases e:y=55
  ·subst e;simp[Mst.F]
  ·simp only[Mst.F,e,if_false])
theorem MAt.set56{m:Mst}(h:MAt w b f m)(x:Int):MAt (w.setCell (N b 56 Z) (.int I x)) b f { m with t:={ m.t with E:=x } } :=
 Cs.set h 56 _ (λy hy=>by
  by_cases e:y=56
  ·subst e;simp[Mst.F]
  ·simp only[Mst.F,e,if_false])
theorem MAt.set57{m:Mst}(h:MAt w b f m)(x:ByteArray):MAt (w.setCell (N b 57 Z) (.string x)) b f { m with t:={ m.t with y:=x } } :=
 Cs.set h 57 _ (λy hy=>by
  by_cases e:y=57
  ·subst e;simp[Mst.F]
  ·simp only[Mst.F,e,if_false])
theorem MAt.set58{m:Mst}(h:MAt w b f m)(x:Bool):MAt (w.setCell (N b 58 Z) (.bool x)) b f { m with t:={ m.t with ask:=x } } :=
 Cs.set h 58 _ (λy hy=>by
  by_cases e:y=58
  ·subst e;simp[Mst.F]
  ·simp only[Mst.F,e,if_false])
theorem MAt.set59{m:Mst}(h:MAt w b f m)(x:ByteArray):MAt (w.setCell (N b 59 Z) (.string x)) b f { m with t:={ m.t with e:=x } } :=
 Cs.set h 59 _ (λy hy=>by
  by_cases e:y=59
  ·subst e;simp[Mst.F]
  ·simp only[Mst.F,e,if_false])
theorem MAt.set60{m:Mst}(h:MAt w b f m)(x:Int):MAt (w.setCell (N b 60 Z) (.int I x)) b f { m with t:={ m.t with g:=x } } :=
 Cs.set h 60 _ (λy hy=>by
  by_cases e:y=60
  ·subst e;simp[Mst.F]
  ·simp only[Mst.F,e,if_false])
theorem MAt.setTurn{m:Mst}(h:MAt w b f m)(t:Turn):MAt ((((((w.setCell (N b 55 Z) (.bool t.ak)).setCell (N b 56 Z) (.int I t.E)).setCell (N b 57 Z) (.string t.y)).setCell (N b 58 Z) (.bool t.ask)).setCell (N b 59 Z) (.string t.e)).setCell (N b 60 Z) (.int I t.g)) b f { m with t:=t } :=
 (((((h.set55 t.ak).set56 t.E).set57 t.y).set58 t.ask).set59 t.e).set60 t.g
theorem MAt.turn{m:Mst}(h:MAt w b f m):(A w (N b 55 Z)=T (.bool m.t.ak)/\z w (N b 55 Z)=ZA)/\(A w (N b 56 Z)=T (.int I m.t.E)/\z w (N b 56 Z)=ZA)/\(A w (N b 57 Z)=T (.string m.t.y)/\z w (N b 57 Z)=ZA)/\(A w (N b 58 Z)=T (.bool m.t.ask)/\z w (N b 58 Z)=ZA)/\(A w (N b 59 Z)=T (.string m.t.e)/\z w (N b 59 Z)=ZA)/\(A w (N b 60 Z)=T (.int I m.t.g)/\z w (N b 60 Z)=ZA) :=
 ⟨h.am 55 _ (by omega) (by simp[Mst.F]),h.am 56 _ (by omega) (by simp[Mst.F]),h.am 57 _ (by omega) (by simp[Mst.F]),h.am 58 _ (by omega) (by simp[Mst.F]),h.am 59 _ (by omega) (by simp[Mst.F]),h.am 60 _ (by omega) (by simp[Mst.F])⟩
theorem Cp{a:M}(h:Only b a w)(t:Turn):Only b a ((((((w.setCell (N b 55 Z) (.bool t.ak)).setCell (N b 56 Z) (.int I t.E)).setCell (N b 57 Z) (.string t.y)).setCell (N b 58 Z) (.bool t.ask)).setCell (N b 59 Z) (.string t.e)).setCell (N b 60 Z) (.int I t.g)) :=
 bO (bO (bO (bO (bO (bO h _ _) _ _) _ _) _ _) _ _) _ _
theorem oS (b:Nat)(g:ZB)(m:Mst)(t:ByteArray)(w:M)(hM:MAt w b g m)(h:m.size<50):Calls Pg 295 #[.pointer (T (N b 0 Z)),.string t] w λe i=>e=ZD (.tuple #[])/\MAt i b g { m with S:=upd m.S m.size t,size:=m.size+1 }/\Only b w i:=by have j:=ae hM;obtain⟨c0,z0⟩:=hM.am 50 (.int I m.size) (by omega) (by simp[Mst.F]);obtain⟨c1,z1⟩:=hM.txt m.size h;clear hM;go_enter func295,ntmps295;go_wp2;go_region_with fail;have f:=ae ((j.setTxt m.size h t).aa (Below.refl _ _).drew (Nat.lt_succ_self _));clear c0 z0 c1 z1;obtain⟨c0,z0⟩:=f.am 50 (.int I m.size) (by omega) (by simp[Mst.F]);go_wp2;refine kK rfl rfl ?_;exact⟨rfl,f.setSize (m.size+1) _ (by simp),bO (bO (Only.refl _ _) _ _).drew _ _⟩
theorem jH (b:Nat)(g:ZB)(m:Mst)(k:Nat)(w:M)(hM:MAt w b g m)(i:m.size=k+1)(j:k<50):Calls Pg 313 #[.pointer (T (N b 0 Z))] w λe h=>e=ZD (.string (m.S k))/\MAt h b g { m with size:=k }/\Only b w h:=by have l:=ae hM;obtain⟨c0,z0⟩:=hM.am 50 (.int I (k+1)) (by omega) (by simp[Mst.F,i]);clear hM;go_enter func313,ntmps313;go_wp2_with fail;have f:=ae (l.setSize k k rfl);obtain⟨c1,z1⟩:=f.txt k j;obtain⟨c2,z2⟩:=f.am 50 (.int I k) (by omega) (by simp[Mst.F]);clear c0 z0;go_region_with fail;go_wp2;go_ret;exact⟨rfl,f.aa (Below.refl _ _).drew (Nat.lt_succ_self _),(bO (Only.refl _ _) _ _).drew⟩
theorem jv (b:Nat)(f:ZB)(m:Mst)(c:Int)(t:ByteArray)(w:M)(hM:MAt w b f m):Calls Pg 296 #[.pointer (T (N b 0 Z)),.int I c,.string t] w λe g=>e=ZD (.tuple #[])/\MAt g b f { m with t:=⟨ZF,c,t,ZA,⟨#[]⟩,m.g⟩ }/\Only b w g:=by have h:=ae hM;obtain⟨c0,z0⟩:=hM.am 53 (.int I m.g) (by omega) (by simp[Mst.F]);obtain⟨c5,z5⟩:=hM.am 55 (.bool m.t.ak) (by omega) (by simp[Mst.F]);obtain⟨c6,z6⟩:=hM.am 56 (.int I m.t.E) (by omega) (by simp[Mst.F]);obtain⟨c7,z7⟩:=hM.am 57 (.string m.t.y) (by omega) (by simp[Mst.F]);obtain⟨c8,z8⟩:=hM.am 58 (.bool m.t.ask) (by omega) (by simp[Mst.F]);obtain⟨c9,z9⟩:=hM.am 59 (.string m.t.e) (by omega) (by simp[Mst.F]);obtain⟨c10,z10⟩:=hM.am 60 (.int I m.t.g) (by omega) (by simp[Mst.F]);clear hM;go_enter func296,ntmps296;go_wp2;refine kK rfl rfl ?_;exact⟨rfl,h.setTurn ⟨ZF,c,t,ZA,⟨#[]⟩,m.g⟩,bO (bO (bO (bO (bO (bO (Only.refl _ _) _ _) _ _) _ _) _ _) _ _) _ _⟩
def aJ (k:Nat):Nat:=if k=2∨k=6∨k=8 then 2 else if k=0∨k=1∨k=10∨15<k then 0 else 1
def bu (k:Nat):Nat:=if k=7∨k=8 then 2 else if k=0∨k=9∨k=10∨k=11∨13<k then 0 else 1
def Tab2 (w:M):Prop:=1<Q (U w)/\∀k:Nat,k<16->A w (N 1 (k*5+3) Z)=T (.int I (aJ k))/\A w (N 1 (k*5+4) Z)=T (.int I (bu k))
theorem Tab2.aa{b:M}{B:Nat}(h:Tab2 w)(hb:Below B w b)(g:1<B):Tab2 b :=
 ⟨Nat.lt_of_lt_of_le h.1 hb.size,λk f=>⟨(hb.cell (p:=(N 1 _ Z)) g).trans (h.2 k f).1,(hb.cell (p:=(N 1 _ Z)) g).trans (h.2 k f).2⟩⟩
theorem bears_any (b:Nat)(g:ZB)(m:Mst)(k:Nat)(w:M)(hM:MAt w b g m)(f:Tab2 w)(h1:1<=(k:Int))(h2:(k:Int)<=15)(hs:m.size<=50):Calls Pg 305 #[.pointer (T (N b 0 Z)),.int I k] w λe h=>e=ZD (.bool (decide (aJ k<=m.size/\m.size - aJ k+bu k<=50)))/\Below (Q (U w)) w h:=by
 have hT0:=f.1;obtain⟨c0,z0⟩:=hM.am 50 (.int I m.size) (by omega) (by simp[Mst.F]);obtain⟨t0,t1⟩:=f.2 k (by omega);have k1:aJ k<=2:=by unfold aJ;split<;>(try split)<;>omega
 have k2:bu k<=2:=by unfold bu;split<;>(try split)<;>omega
 clear hM f;generalize aJ k=x at *;generalize bu k=y at *;by_cases hx:x<=m.size;{go_enter func305,ntmps305;go_wp2_with fail;go_quiet (fail);go_wp2;go_ret;refine⟨bq ?_,below_drewN (Below.refl _ _) _⟩;rw[Bool.eq_iff_iff];simp;omega};{go_enter func305,ntmps305;go_wp2_with fail;go_quiet (fail);go_wp2_with fail;go_ret;refine⟨bq ?_,below_drewN (Below.refl _ _) _⟩;rw[Bool.eq_iff_iff];simp;omega}
def dk (s:ByteArray):Nat->Bool
 |0=>ZF
 |k+1=>dk s k && (match s.data[k]? with|some c=>decide (33<=c.toNat/\c.toNat<=126)|none=>ZA)
def aA (s:ByteArray):Bool:=decide (1<=s.size/\s.size<=60) && dk s s.size
theorem tP{k:Nat}(h:k<=n)(hn:dk s n=ZF):dk s k=ZF:=by
 induction n with
 |zero =>
  obtain rfl:k=0:=by omega
  exact hn
 |succ m b =>
  by_cases e:k=m+1;{subst e;exact hn};{simp only[dk,Bool.and_eq_true] at hn;exact b (by omega) hn.1}
theorem jj{k:Nat}(h:k<s.size):dk s (k+1)=(dk s k && decide (33<=s[k].toNat/\s[k].toNat<=126)):=by
 have e:s.data[k]?=T s[k]:=by rw[Array.getElem?_eq_getElem h];rfl
 rw[dk,e]
theorem fH{k:Nat}(h:k<s.size)(hk:¬ (33<=s[k].toNat/\s[k].toNat<=126)):dk s s.size=ZA:=by
 cases e:dk s s.size with
 |false=>rfl
 |true =>have h2:=tP (show k+1<=s.size by omega) e;rw[jj h] at h2;simp at h2;omega
theorem rj (s:ByteArray)(w:M)(F:Nat)(hF:(True/\F=109)∨F=69):Calls Pg F #[.string s] w λe n=>e=ZD (.bool (aA s))/\Below (Q (U w)) w n:=by
 by_cases h1:1<=(s.size:Int)/\(s.size:Int)<=60
 ·have j:Hid (aA s=dk s s.size):=by
   show aA s=dk s s.size;unfold aA;rw[show decide (1<=s.size/\s.size<=60)=ZF by simp;omega,Bool.true_and]
  obtain⟨h1,h2⟩:=h1;rcases hF with ⟨ZQ,rfl⟩|rfl;all_goals
   first|(guard_hyp ZQ;go_enter func109,ntmps109)|go_enter func69,ntmps69
   go_wp2;first|(guard_hyp ZQ;go_loopw [14] (λi wr=>∃k:Nat,k<=s.size/\i=.int I k/\dk s k=ZF/\Below (Q (U w)) w wr) (λi _=>s.size - (intOf i).toNat))|go_loopw [3] (λi wr=>∃k:Nat,k<=s.size/\i=.int I k/\dk s k=ZF/\Below (Q (U w)) w wr) (λi _=>s.size - (intOf i).toNat)
   case atStart=>exact⟨0,by omega,rfl,rfl,Below.refl _ _⟩
   case round =>
    obtain⟨k,hk,rfl,g,m⟩:=hrel;have f:=ae m;have l:=ae g;clear m g;by_cases b:k<s.size
    ·by_cases p1:33<=(s[k].toNat:Int)
     ·by_cases p2:(s[k].toNat:Int)<=126
      ·go_wp2
       exact⟨⟨k+1,by omega,by go_num,by rw[jj b,l.out];simp;omega,f⟩,by simp[intOf];omega⟩
      ·go_wp2
       go_ret;exact⟨bq (by rw[j.out,fH b (by omega)]),f⟩
     ·go_wp2
      go_ret;exact⟨bq (by rw[j.out,fH b (by omega)]),f⟩
    ·have e:k=s.size:=by omega
     subst e;go_wp2;go_ret;exact⟨bq (by rw[j.out,l.out]),f.out⟩
 ·rw[show aA s=ZA by unfold aA;rw[show decide (1<=s.size/\s.size<=60)=ZA by simp;omega,Bool.false_and]];by_cases h2:1<=(s.size:Int)
  ·have h3:¬ (s.size:Int)<=60:=λh=>h1 ⟨h2,h⟩;clear h1;rcases hF with ⟨ZQ,rfl⟩|rfl;all_goals
    first|(guard_hyp ZQ;go_enter func109,ntmps109)|go_enter func69,ntmps69
    go_wp2;go_ret;exact⟨rfl,Below.refl _ _⟩
  ·clear h1;rcases hF with ⟨ZQ,rfl⟩|rfl;all_goals
    first|(guard_hyp ZQ;go_enter func109,ntmps109)|go_enter func69,ntmps69
    go_wp2;go_ret;exact⟨rfl,Below.refl _ _⟩
abbrev eh (s:ByteArray)(w:M):=rj s w _ (.inl ⟨trivial,rfl⟩)
abbrev cH (s:ByteArray)(w:M):=rj s w _ (.inr rfl)
structure aB where
 has:Bool
 E:Int
 y:ByteArray
def AtReply (w:M)(b off i:Nat)(x:aB):Prop :=
 A w (N b (off+i*3) Z)=T (.bool x.has)/\A w (N b (off+i*3+1) Z)=T (.int I x.E)/\A w (N b (off+i*3+2) Z)=T (.string x.y)
theorem AtReply.aa{B:Nat}{x:aB}(h:AtReply w b off i x)(hb:Below B w g)(f:b<B):AtReply g b off i x :=
 ⟨(hb.cell (p:=(N b _ Z)) f).trans h.1,(hb.cell (p:=(N b _ Z)) f).trans h.2.1,(hb.cell (p:=(N b _ Z)) f).trans h.2.2⟩
def RowReply (w:M)(b off n:Nat)(f:Nat->aB):Prop:=b<Q (U w)/\∀i,i<n->AtReply w b off i (f i)
theorem RowReply.aa{B:Nat}{f:Nat->aB}(h:RowReply w b off n f)(hb:Below B w g)(j:Q (U w)<=B):RowReply g b off n f :=
 ⟨Nat.lt_of_lt_of_le h.1 hb.size,λi hi=>(h.2 i hi).aa hb (Nat.lt_of_lt_of_le h.1 j)⟩
structure Source where
 e:ByteArray
 y:ByteArray
def AtSource (w:M)(b off i:Nat)(x:Source):Prop :=
 A w (N b (off+i*2) Z)=T (.string x.e)/\A w (N b (off+i*2+1) Z)=T (.string x.y)
theorem AtSource.aa{B:Nat}{x:Source}(h:AtSource w b off i x)(hb:Below B w g)(f:b<B):AtSource g b off i x :=
 ⟨(hb.cell (p:=(N b _ Z)) f).trans h.1,(hb.cell (p:=(N b _ Z)) f).trans h.2⟩
def RowSource (w:M)(b off n:Nat)(f:Nat->Source):Prop:=b<Q (U w)/\∀i,i<n->AtSource w b off i (f i)
theorem RowSource.aa{B:Nat}{f:Nat->Source}(h:RowSource w b off n f)(hb:Below B w g)(j:Q (U w)<=B):RowSource g b off n f :=
 ⟨Nat.lt_of_lt_of_le h.1 hb.size,λi hi=>(h.2 i hi).aa hb (Nat.lt_of_lt_of_le h.1 j)⟩
def SlSource (w:M)(a:Option Addr)(n:Nat)(f:Nat->Source):Prop:=n=0∨∃b off,a=T (N b off Z)/\RowSource w b off n f
theorem SlSource.aa{B:Nat}{f:Nat->Source}(h:SlSource w a n f)(hb:Below B w g)(l:Q (U w)<=B):SlSource g a n f:=by
 rcases h with h|⟨b,off,j,i⟩
 {exact .inl h};{exact .inr ⟨b,off,j,i.aa hb l⟩}
theorem ip:(Pg.info? 142).map (λi=>(i.zero,i.size,i.bytes))=T (T (.agg #[.string ⟨#[]⟩,.string ⟨#[]⟩]),2,32):=by kernel_rfl
structure Target where
 e:ByteArray
 m:Nat
 D:Nat->Ins
def aY (x:Target):Prop:=x.m<=1048576
def AtTarget (w:M)(b off i:Nat)(x:Target):Prop :=
 A w (N b (off+i*2) Z)=T (.string x.e)/\(∃a cap,A w (N b (off+i*2+1) Z)=T (Y a x.m cap)/\SlIns w a x.m x.D)
theorem AtTarget.aa{l:M}{B:Nat}{x:Target}(h:AtTarget w b off i x)(hb:Below B w l)(f:Q (U w)<=B)(j:b<Q (U w)):AtTarget l b off i x:=by obtain⟨m,⟨a0,g,s0,r0⟩⟩:=h;refine⟨(hb.cell (p:=(N b _ Z)) (Nat.lt_of_lt_of_le j f)).trans m,⟨a0,g,(hb.cell (p:=(N b _ Z)) (Nat.lt_of_lt_of_le j f)).trans s0,r0.aa hb f⟩⟩
def RowTarget (w:M)(b off n:Nat)(f:Nat->Target):Prop:=b<Q (U w)/\∀i,i<n->AtTarget w b off i (f i)
theorem RowTarget.aa{B:Nat}{f:Nat->Target}(h:RowTarget w b off n f)(hb:Below B w g)(j:Q (U w)<=B):RowTarget g b off n f :=
 ⟨Nat.lt_of_lt_of_le h.1 hb.size,λi hi=>(h.2 i hi).aa hb j h.1⟩
def SlTarget (w:M)(a:Option Addr)(n:Nat)(f:Nat->Target):Prop:=n=0∨∃b off,a=T (N b off Z)/\RowTarget w b off n f
theorem SlTarget.aa{B:Nat}{f:Nat->Target}(h:SlTarget w a n f)(hb:Below B w g)(l:Q (U w)<=B):SlTarget g a n f:=by
 rcases h with h|⟨b,off,j,i⟩
 {exact .inl h};{exact .inr ⟨b,off,j,i.aa hb l⟩}
theorem fJ:(Pg.info? 146).map (λi=>(i.zero,i.size,i.bytes))=T (T (.agg #[.string ⟨#[]⟩,Y Z 0 0]),2,40):=by kernel_rfl
def RowStr (w:M)(b off n:Nat)(f:Nat->ByteArray):Prop:=b<Q (U w)/\∀i,i<n->A w (N b (off+i) Z)=T (.string (f i))
theorem RowStr.aa{B:Nat}{f:Nat->ByteArray}(h:RowStr w b off n f)(hb:Below B w g)(j:Q (U w)<=B):RowStr g b off n f :=
 ⟨Nat.lt_of_lt_of_le h.1 hb.size,λi hi=>(hb.cell (p:=(N b _ Z)) (Nat.lt_of_lt_of_le h.1 j)).trans (h.2 i hi)⟩
def SlStr (w:M)(a:Option Addr)(n:Nat)(f:Nat->ByteArray):Prop:=n=0∨∃b off,a=T (N b off Z)/\RowStr w b off n f
theorem SlStr.aa{B:Nat}{f:Nat->ByteArray}(h:SlStr w a n f)(hb:Below B w g)(l:Q (U w)<=B):SlStr g a n f:=by
 rcases h with h|⟨b,off,j,i⟩
 {exact .inl h};{exact .inr ⟨b,off,j,i.aa hb l⟩}
theorem fK:(Pg.info? 9).map (λi=>(i.zero,i.size,i.bytes))=T (T (.string ⟨#[]⟩),1,16):=by kernel_rfl
theorem vK (f:Nat->Ins):valid f 0=ZA:=by simp[valid]
theorem kL (a:Option Addr)(n cap:Nat)(f:Nat->Ins)(w:M)(hn:n<=1048576)(h:SlIns w a n f)(i:Tab w):Calls Pg 167 #[.agg #[Y a n cap]] w λe j=>e=ZD (.bool (valid f n))/\Below (Q (U w)) w j:=by
 rcases h with rfl|⟨b,off,rfl,g⟩
 {exact kJ a 0 cap f w (by omega) (by simp)};{exact qD b off n cap f w hn g.1 g.2 i}
theorem qE (a:Option Addr)(cap:Nat)(f:Nat->Ins)(w:M):Calls Pg 92 #[.agg #[Y a 0 cap]] w λe g=>e=ZD (.bool (valid f 0))/\Below (Q (U w)) w g:=by
 rw[vK];have b:=ae ((Below.refl (Q (U w)) w).alloc (Nat.le_refl _) (J #[Y a 0 cap] 43));go_enter func92,ntmps92;go_wp2;go_loop [3] (λi=>i=.int I 0) (λ_=>0);case atStart=>rfl
 case round =>subst hrel;go_wp2;go_ret;exact⟨rfl,b⟩
theorem iH (a:Option Addr)(n cap:Nat)(f:Nat->Ins)(w:M)(hn:n<=1048576)(j:SlIns w a n f)(h:∀i,i<n->(f i).s.size<=maxLen):Calls Pg 92 #[.agg #[Y a n cap]] w λe l=>e=ZD (.bool (valid f n))/\Below (Q (U w)) w l:=by
 rcases j with rfl|⟨b,off,rfl,g⟩
 {exact qE a cap f w};{exact fl b off n cap f w hn g.1 g.2 h}
structure Link where
 e:ByteArray
 ask:Bool
 has:Bool
 G:Int
def AtLink (w:M)(b off i:Nat)(x:Link):Prop :=
 A w (N b (off+i*4) Z)=T (.string x.e)/\A w (N b (off+i*4+1) Z)=T (.bool x.ask)/\A w (N b (off+i*4+2) Z)=T (.bool x.has)/\A w (N b (off+i*4+3) Z)=T (.int I x.G)
theorem AtLink.aa{B:Nat}{x:Link}(h:AtLink w b off i x)(hb:Below B w g)(f:b<B):AtLink g b off i x :=
 ⟨(hb.cell (p:=(N b _ Z)) f).trans h.1,(hb.cell (p:=(N b _ Z)) f).trans h.2.1,(hb.cell (p:=(N b _ Z)) f).trans h.2.2.1,(hb.cell (p:=(N b _ Z)) f).trans h.2.2.2⟩
def RowLink (w:M)(b off n:Nat)(f:Nat->Link):Prop:=b<Q (U w)/\∀i,i<n->AtLink w b off i (f i)
theorem RowLink.aa{B:Nat}{f:Nat->Link}(h:RowLink w b off n f)(hb:Below B w g)(j:Q (U w)<=B):RowLink g b off n f :=
 ⟨Nat.lt_of_lt_of_le h.1 hb.size,λi hi=>(h.2 i hi).aa hb (Nat.lt_of_lt_of_le h.1 j)⟩
def SlLink (w:M)(a:Option Addr)(n:Nat)(f:Nat->Link):Prop:=n=0∨∃b off,a=T (N b off Z)/\RowLink w b off n f
theorem SlLink.aa{B:Nat}{f:Nat->Link}(h:SlLink w a n f)(hb:Below B w g)(l:Q (U w)<=B):SlLink g a n f:=by
 rcases h with h|⟨b,off,j,i⟩
 {exact .inl h};{exact .inr ⟨b,off,j,i.aa hb l⟩}
theorem mF:(Pg.info? 91).map (λi=>(i.zero,i.size,i.bytes))=T (T (.agg #[.string ⟨#[]⟩,.bool ZA,.bool ZA,.int I 0]),4,32):=by kernel_rfl
structure aj where
 e:ByteArray
 H:Int
 E:Int
 y:ByteArray
 m:Nat
 D:Nat->Ins
 l:Nat
 u:Nat->Link
def eQ (x:aj):Prop:=x.e.size<=maxLen/\x.y.size<=maxLen/\((x.m:Int)<=9223372036854775807/\∀j,j<x.m->(x.D j).s.size<=maxLen)/\((x.l:Int)<=9223372036854775807/\∀j,j<x.l->(x.u j).e.size<=maxLen)
def dQ (x:aj):Prop:=x.m<=1048576/\x.l<=1048576
def AtDeed (w:M)(b off i:Nat)(x:aj):Prop :=
 A w (N b (off+i*6) Z)=T (.string x.e)/\A w (N b (off+i*6+1) Z)=T (.int I x.H)/\A w (N b (off+i*6+2) Z)=T (.int I x.E)/\A w (N b (off+i*6+3) Z)=T (.string x.y)/\(∃a cap,A w (N b (off+i*6+4) Z)=T (Y a x.m cap)/\SlIns w a x.m x.D)/\(∃a cap,A w (N b (off+i*6+5) Z)=T (Y a x.l cap)/\SlLink w a x.l x.u)
theorem AtDeed.aa{m:M}{B:Nat}{x:aj}(h:AtDeed w b off i x)(hb:Below B w m)(f:Q (U w)<=B)(g:b<Q (U w)):AtDeed m b off i x:=by obtain⟨q,r,n,o,⟨a0,j,s0,r0⟩,⟨a1,l,s1,r1⟩⟩:=h;refine⟨(hb.cell (p:=(N b _ Z)) (Nat.lt_of_lt_of_le g f)).trans q,(hb.cell (p:=(N b _ Z)) (Nat.lt_of_lt_of_le g f)).trans r,(hb.cell (p:=(N b _ Z)) (Nat.lt_of_lt_of_le g f)).trans n,(hb.cell (p:=(N b _ Z)) (Nat.lt_of_lt_of_le g f)).trans o,⟨a0,j,(hb.cell (p:=(N b _ Z)) (Nat.lt_of_lt_of_le g f)).trans s0,r0.aa hb f⟩,⟨a1,l,(hb.cell (p:=(N b _ Z)) (Nat.lt_of_lt_of_le g f)).trans s1,r1.aa hb f⟩⟩
def RowDeed (w:M)(b off n:Nat)(f:Nat->aj):Prop:=b<Q (U w)/\∀i,i<n->AtDeed w b off i (f i)
theorem RowDeed.aa{B:Nat}{f:Nat->aj}(h:RowDeed w b off n f)(hb:Below B w g)(j:Q (U w)<=B):RowDeed g b off n f :=
 ⟨Nat.lt_of_lt_of_le h.1 hb.size,λi hi=>(h.2 i hi).aa hb j h.1⟩
def SlDeed (w:M)(a:Option Addr)(n:Nat)(f:Nat->aj):Prop:=n=0∨∃b off,a=T (N b off Z)/\RowDeed w b off n f
theorem SlDeed.aa{B:Nat}{f:Nat->aj}(h:SlDeed w a n f)(hb:Below B w g)(l:Q (U w)<=B):SlDeed g a n f:=by
 rcases h with h|⟨b,off,j,i⟩
 {exact .inl h};{exact .inr ⟨b,off,j,i.aa hb l⟩}
theorem fX:(Pg.info? 46).map (λi=>(i.zero,i.size,i.bytes))=T (T (.agg #[.string ⟨#[]⟩,.int I 0,.int I 0,.string ⟨#[]⟩,Y Z 0 0,Y Z 0 0]),6,96):=by kernel_rfl
def cV (n:Nat):Array ZB:=madeCells (Value.agg #[.string ⟨#[]⟩,.int I 0,.int I 0,.string ⟨#[]⟩,Y Z 0 0,Y Z 0 0]).cells (n*6)
theorem Ep (n:Nat)(hn:n<=1048576)(w:M):(Instr.makeSlice 35 (.int I (n:Int)) (.int I (n:Int))).run Pg w=.ok (Y (T (N (Q (U w)) 0 Z)) n n) (w.alloc (J (cV n) 46)):=by obtain⟨i,hi,hz⟩:=Option.map_eq_some_iff.1 fX;simp only[Prod.mk.injEq] at hz;obtain⟨h1,h2,b⟩:=hz;have h:=run_make (P:=Pg) w 35 46 i _ underlying35 hi h1 I I n n (by omega) (Int.le_refl _) (by rw[b];omega) (by omega);rw[h2] at h;simpa[cV] using h
def dU (f:Nat->aj)(p:Nat)(l:Link):Bool :=
 aA l.e && (if l.ask=ZF then !l.has && decide (0<=l.G) && decide (l.G<(p:Int)) && ((f l.G.toNat).e.toList == l.e.toList) else decide (l.G=0))
def bP (f:Nat->aj)(p:Nat)(x:aj):Nat->Bool
 |0=>ZF
 |k+1=>bP f p x k && dU f p (x.u k)
def aN (x:aj):Bool:=decide (x.E=0) && decide (x.m=0) && decide (x.l=0)
def bV (f:Nat->aj)(p:Nat)(x:aj):Bool:=decide (0<=x.E) && decide (x.E<=5) && valid x.D x.m && decide (x.l<=200) && bP f p x x.l
def kindOk (f:Nat->aj)(p:Nat)(x:aj):Bool :=
 if x.H=1 then aN x else if x.H=2 then aN x && decide (x.y.size=0) else if x.H=3 then bV f p x else ZA
def bc (f:Nat->aj)(p:Nat):Bool:=aA (f p).e && decide ((f p).y.size<=2000) && kindOk f p (f p)
def aU (f:Nat->aj)(p:Nat):Nat->Bool
 |0=>ZF
 |k+1=>aU f p k && !((f k).e.toList == (f p).e.toList)
def aK (g:Nat->Bool):Nat->Int
 |0=>-1
 |k+1=>if aK g k=-1 then (if g k=ZF then -1 else k) else aK g k
theorem eF{g:Nat->Bool}(h:∀i,i<n->g i=ZF):aK g n=-1:=by
 induction n with
 |zero=>rfl
 |succ k b =>rw[aK,if_pos (b λi hi=>h i (by omega)),if_pos (h k (by omega))]
theorem eW{g:Nat->Bool}(hi:i<n)(b:g i=ZA)(h:∀j,j<i->g j=ZF):aK g n=i:=by
 induction n with
 |zero=>omega
 |succ k f =>
  rw[aK];by_cases e:i=k;{subst e;rw[if_pos (eF h),if_neg (by rw[b];simp)]};{have:=f (by omega);rw[this,if_neg (by omega)]}
theorem dL{g:Nat->Bool}(h:aK g n=-1):∀i,i<n->g i=ZF:=by
 induction n with
 |zero=>intro i hi;omega
 |succ k b =>
  rw[aK] at h;split at h
  ·rename_i h1;intro i hi;by_cases e:i=k
   ·subst e;cases hg:g i with
    |true=>rfl
    |false=>rw[hg] at h;simp at h
   {exact b h1 i (by omega)}
  {rename_i h1;exact absurd h h1}
theorem jI{f:Nat->aj}{x:aj}(h:bP f p x n=ZF):∀i,i<n->dU f p (x.u i)=ZF:=by
 induction n with
 |zero=>intro i hi;omega
 |succ k b =>
  simp only[bP,Bool.and_eq_true] at h;intro i hi;by_cases e:i=k;{subst e;exact h.2};{exact b h.1 i (by omega)}
def lks (go:Nat->Nat->(Nat->Bool)->(Nat->Bool) × List (Nat × Nat))(x:aj)(d:Nat)(s:Nat->Bool):Nat->(Nat->Bool) × List (Nat × Nat)
 |0=>(s,[])
 |j+1=>if (x.u j).ask=ZF/\(lks go x d s j).1 (x.u j).G.toNat=ZA then ((go (x.u j).G.toNat (d+1) (lks go x d s j).1).1,(lks go x d s j).2++(go (x.u j).G.toNat (d+1) (lks go x d s j).1).2) else lks go x d s j
def put (s:Nat->Bool)(p:Nat):Nat->Bool:=λq=>q == p || s q
def lst (f:Nat->aj):Nat->Nat->Nat->(Nat->Bool)->(Nat->Bool) × List (Nat × Nat)
 |0,_,_,s=>(s,[])
 |k+1,p,d,s=>(put (lks (lst f k) (f p) d s (f p).l).1 p,(lks (lst f k) (f p) d s (f p).l).2++[(p,d)])
def fm (f:Nat->aj)(n:Nat):Prop:=∀p,p<n->∀i,i<(f p).l->((f p).u i).ask=ZF->((f p).u i).G.toNat<p/\0<=((f p).u i).G
def cnt (s:Nat->Bool):Nat->Nat
 |0=>0
 |k+1=>cnt s k+(if s k=ZF then 1 else 0)
theorem Er (s:Nat->Bool)(n:Nat):cnt s n<=n:=by
 induction n with
 |zero=>simp[cnt]
 |succ k ih=>rw[cnt];split<;>omega
theorem xI{s b:Nat->Bool}(h:∀q,q<n->s q=b q):cnt s n=cnt b n:=by
 induction n with
 |zero=>rfl
 |succ k f=>rw[cnt,cnt,f λq hq=>h q (by omega),h k (by omega)]
theorem Cy{s:Nat->Bool}(hp:p<n)(h:s p=ZA):cnt (put s p) n=cnt s n+1:=by
 induction n with
 |zero=>omega
 |succ k b =>
  rw[cnt,cnt];by_cases e:p=k
  ·subst e;have h1:cnt (put s p) p=cnt s p:=xI λq hq=>by simp[put];omega
   simp[h1,put,h]
  ·have h1:put s p k=s k:=by simp[put];omega
   rw[b (by omega),h1];omega
structure Lsd (n p d:Nat)(s:Nat->Bool)(r:(Nat->Bool) × List (Nat × Nat)):Prop where
 far:∀q,p<q->r.1 q=s q
 old:∀q,s q=ZF->r.1 q=ZF
 num:cnt r.1 n=cnt s n+r.2.length
 last:∃o,r.2=o++[(p,d)]
 le:∀x∈r.2,x.1<=p
theorem uK {f:Nat->aj}{n k p d:Nat}{s:Nat->Bool}(l:fm f n)(m:p<n)(go:∀q d s,q<p->s q=ZA->Lsd n q d s (lst f k q d s)):∀j,j<=(f p).l->(∀q,p<=q->(lks (lst f k) (f p) d s j).1 q=s q)/\(∀q,s q=ZF->(lks (lst f k) (f p) d s j).1 q=ZF)/\cnt (lks (lst f k) (f p) d s j).1 n=cnt s n+(lks (lst f k) (f p) d s j).2.length/\∀x∈(lks (lst f k) (f p) d s j).2,x.1<p
 |0,_=>⟨λ_ _=>rfl,λ_ h=>h,by simp[lks],by simp[lks]⟩
 |j+1,hj=>by
  obtain⟨h1,h2,r,o⟩:=uK (d:=d) (s:=s) l m go j (by omega);rw[lks];split
  ·rename_i t
   have u:=(l p m j (by omega) t.1).1;have g:=go _ (d+1) _ u t.2;refine⟨λq i=>(g.far q (by omega)).trans (h1 q i),λq i=>g.old q (h2 q i),?_,λx b=>?_⟩
   ·show cnt (lst f k _ (d+1) _).1 n=_
    rw[g.num,r,List.length_append];omega
   ·rcases List.mem_append.1 b with b|b
    ·exact o x b
    ·have:=g.le x b
     omega
  ·exact⟨h1,h2,r,o⟩
theorem uL {f:Nat->aj}{n:Nat}(j:fm f n):∀k p d s,p<k->p<n->s p=ZA->Lsd n p d s (lst f k p d s)
 |0,_,_,_,h,_,_=>absurd h (Nat.not_lt_zero _)
 |k+1,p,d,s,hk,hn,i=>by
  obtain⟨h1,h2,l,o⟩:=uK (d:=d) (s:=s) j hn (λq d s g i=>uL j k q d s (by omega) (by omega) i) (f p).l (Nat.le_refl _);have m:=(h1 p (Nat.le_refl _)).trans i;refine⟨λq g=>?_,λq g=>?_,?_,⟨_,rfl⟩,λx b=>?_⟩
  ·show put _ p q=s q
   rw[put,h1 q (by omega)];simp;omega
  ·show put _ p q=ZF
   rw[put,h2 q g];simp
  ·show cnt (put _ p) n=_
   rw[Cy hn m,l];simp[lst,List.length_append];omega
  ·rcases List.mem_append.1 b with b|b
   ·exact Nat.le_of_lt (o x b)
   ·simp at b
    subst b;exact Nat.le_refl _
theorem uM {f:Nat->aj}{n:Nat}(i:fm f n):∀k p d s q,p<n->p<q->lst f k p d (put s q)=(put (lst f k p d s).1 q,(lst f k p d s).2)
 |0,_,_,_,_,_,_=>rfl
 |k+1,p,d,s,q,hn,hq=>by
  have g:∀j,j<=(f p).l->lks (lst f k) (f p) d (put s q) j=(put (lks (lst f k) (f p) d s j).1 q,(lks (lst f k) (f p) d s j).2):=by
   intro j;induction j with
   |zero=>intro _;rfl
   |succ j l =>
    intro hj;have e:=l (by omega);rw[lks,lks,e];by_cases b:((f p).u j).ask=ZF
    ·have ha:=(i p hn j (by omega) b).1
     have m:put (lks (lst f k) (f p) d s j).1 q ((f p).u j).G.toNat=(lks (lst f k) (f p) d s j).1 ((f p).u j).G.toNat:=by simp[put];omega
     simp only[m,b,true_and];split
     ·rw[uM i k _ (d+1) _ q (by omega) (by omega)]
     ·rfl
    ·rw[if_neg (λh=>b h.1),if_neg (λh=>b h.1)]
  have e:=g (f p).l (Nat.le_refl _);rw[lst,lst,e];simp only[Prod.mk.injEq,and_true];funext x;simp only[put];cases h1:x == p<;>cases h2:x == q<;>simp
def bC:Nat->List (Nat × Nat)->Int
 |_,[]=>-1
 |i,x::xs=>if x.1=i then bC (i+1) xs else i
def a8 (f:Nat->aj):List (Nat × Nat)->Int
 |[]=>-1
 |x::xs=>if (f x.1).H=3/\60<=x.2 then x.1 else a8 f xs
def aE (f:Nat->aj)(n:Nat):List (Nat × Nat):=(lst f n (n - 1) 0 (λ_=>ZA)).2
def dH (f:Nat->aj)(n:Nat):Int × Int :=
 if n=0∨400<n then (1,0) else
 if aK (bc f) n≠-1 then (2,aK (bc f) n) else
 if aK (λp=>aU f p p) n≠-1 then (3,aK (λp=>aU f p p) n) else
 if bC 0 (aE f n)≠-1 then (4,bC 0 (aE f n)) else
 if a8 f (aE f n)≠-1 then (5,a8 f (aE f n)) else (0,0)
theorem iI{f:Nat->aj}(h:aK (bc f) n=-1):fm f n:=by
 intro p j i hi g;have h1:=dL h p j;simp only[bc,Bool.and_eq_true,kindOk] at h1;obtain⟨_,h2⟩:=h1;split at h2;{simp[aN] at h2;omega};{split at h2;{simp[aN] at h2;omega};{split at h2;{simp only[bV,Bool.and_eq_true] at h2;have b:=jI h2.2 i hi;simp only[dU,g,if_true,Bool.and_eq_true,decide_eq_true_eq] at b;omega};{cases h2}}}
theorem xJ (x:aj)(a0:Option Addr)(b:Nat)(a1:Option Addr)(f:Nat)(w:M):Calls Pg 276 #[.agg #[.string x.e,.int I x.H,.int I x.E,.string x.y,Y a0 x.m b,Y a1 x.l f]] w λe l=>e=ZD (.agg #[.bool (decide (¬ x.H=2)),.int I x.E,.string x.y])/\Below (Q (U w)) w l:=by
 have i:=ae ((Below.refl (Q (U w)) w).alloc (Nat.le_refl _) (J #[.string x.e,.int I x.H,.int I x.E,.string x.y,Y a0 x.m b,Y a1 x.l f] 46));obtain⟨r,h⟩:∃r,r=decide (¬ x.H=2):=⟨_,rfl⟩
 rw[<-h];have j:=ae h;clear h;go_enter func276,ntmps276;by_cases g:x.H=2
 ·obtain rfl:r=ZA:=by rw[j.out];simp[g]
  go_wp2
  exact bodyPost_ret (v:=.agg #[.bool ZA,.int I x.E,.string x.y]) (by simp[results,results276,go_sem]) rfl ⟨rfl,by
   repeat (first|exact i|exact Below.refl _ _|refine Below.alloc ?_ (by simp<;>omega) _)⟩
 ·obtain rfl:r=ZF:=by rw[j.out];simp[g]
  go_wp2
  exact bodyPost_ret (v:=.agg #[.bool ZF,.int I x.E,.string x.y]) (by simp[results,results276,go_sem,g]) rfl ⟨rfl,by
   repeat (first|exact i|exact Below.refl _ _|refine Below.alloc ?_ (by simp<;>omega) _)⟩
def SBx (V:M)(b:Nat)(f g:ZB):Prop:=V.heap[b]?=T (J #[f,g] 27 (0,0))
theorem SBx.c0{g:ZB}(h:SBx V b f g):A V (N b 0 Z)=T f:=by have i:V.heap[b]?=T (J #[f,g] 27 (0,0)):=h;simp[World.cell?,i]
theorem SBx.c1{g:ZB}(h:SBx V b g f):A V (N b 1 Z)=T f:=by have i:V.heap[b]?=T (J #[g,f] 27 (0,0)):=h;simp[World.cell?,i]
theorem SBx.aa{B:Nat}{g:ZB}(h:SBx V b g f)(hb:Below B V ZK)(i:Q (U V)<=B):SBx ZK b g f :=
 (hb.block b (Nat.lt_of_lt_of_le (ar h) i)).trans h
def PBx (V:M)(b:Nat)(f:ZB):Prop:=V.heap[b]?=T (J #[f] 43 (0,0))
structure PP (V:M)(pb g pm pc:Nat)(fp:Nat->Ins):Prop where
 p:PBx V pb (Y (T (N g 0 Z)) pm pc)
 i:RowIns V g 0 pm fp
def RB (V:M)(b:Nat)(k:Int)(t:ByteArray)(v:ZB):Prop:=V.heap[b]?=T (J #[.int I k,.string t,v] 39 (0,0))
theorem RB.c{k:Int}{t:ByteArray}{v:ZB}(h:RB V b k t v):A V (N b 0 Z)=T (.int I k)/\A V (N b 1 Z)=T (.string t)/\A V (N b 2 Z)=T v:=by have f:V.heap[b]?=T (J #[.int I k,.string t,v] 39 (0,0)):=h;refine⟨?_,?_,?_⟩<;>simp[World.cell?,f]
def mG (x y:Ins):Bool:=x.op == y.op && x.s.toList == y.s.toList && x.n == y.n
def ei (f g:Nat->Ins):Nat->Bool
 |0=>ZF
 |k+1=>ei f g k && mG (f k) (g k)
def iq (f g:Nat->Ins)(n m:Nat):Bool:=decide (n=m) && ei f g n
theorem nM{f g:Nat->Ins}{k:Nat}(h:k<=n)(hn:ei f g n=ZF):ei f g k=ZF:=by
 induction n with
 |zero =>
  obtain rfl:k=0:=by omega
  exact hn
 |succ m b =>
  by_cases e:k=m+1;{subst e;exact hn};{simp only[ei,Bool.and_eq_true] at hn;exact b (by omega) hn.1}
theorem tQ{f g:Nat->Ins}{k:Nat}(h:k<n)(b:mG (f k) (g k)=ZA):ei f g n=ZA:=by
 cases e:ei f g n with
 |false=>rfl
 |true =>have h2:=nM (show k+1<=n by omega) e;simp[ei,b] at h2
theorem tR (s:ByteArray)(w:M):Calls Pg 109 #[.string s] w λe m=>e=ZD (.bool (aA s))/\m=w:=by
 by_cases h1:1<=(s.size:Int)
 ·by_cases h2:(s.size:Int)<=60
  ·have h:Hid (aA s=dk s s.size):=by
    show aA s=dk s s.size;unfold aA;rw[show decide (1<=s.size/\s.size<=60)=ZF by simp;omega,Bool.true_and]
   go_enter func109,ntmps109;go_wp2;go_loopw [14] (λi wr=>∃k:Nat,k<=s.size/\i=.int I k/\dk s k=ZF/\wr=w) (λi _=>s.size - (intOf i).toNat);case atStart=>exact⟨0,by omega,rfl,rfl,rfl⟩
   case round =>
    obtain⟨k,hk,rfl,g,l⟩:=hrel;have f:=ae l;have j:=ae g;clear l g;by_cases b:k<s.size
    ·by_cases p1:33<=(s[k].toNat:Int)
     {by_cases p2:(s[k].toNat:Int)<=126;{go_wp2;exact⟨⟨k+1,by omega,by go_num,by rw[jj b,j.out];simp;omega,f⟩,by simp[intOf];omega⟩};{go_wp2;go_ret;exact⟨bq (by rw[h.out,fH b (by omega)]),f⟩}};{go_wp2;go_ret;exact⟨bq (by rw[h.out,fH b (by omega)]),f⟩}
    ·have e:k=s.size:=by omega
     subst e;go_wp2;go_ret;exact⟨bq (by rw[h.out,j.out]),f.out⟩
  {have e:aA s=ZA:=(by unfold aA;rw[show decide (1<=s.size/\s.size<=60)=ZA by simp;omega,Bool.false_and]);rw[e];clear e;go_enter func109,ntmps109;go_wp2;go_ret;exact⟨rfl,rfl⟩}
 {have e:aA s=ZA:=(by unfold aA;rw[show decide (1<=s.size/\s.size<=60)=ZA by simp;omega,Bool.false_and]);rw[e];clear e;go_enter func109,ntmps109;go_wp2;go_ret;exact⟨rfl,rfl⟩}
structure AuBox (W:M)(b:Nat)(v s0 s1:ZB):Prop where
 lt:b+1<Q (U W)
 c0:A W (N b 0 Z)=T v
 c1:A W (N (b+1) 0 Z)=T s0
 c2:A W (N (b+1) 1 Z)=T s1
theorem AuBox.aa{B:Nat}{v s0 s1:ZB}(h:AuBox W b v s0 s1)(hb:Below B W g)(f:b+1<B):AuBox g b v s0 s1 :=
 ⟨Nat.lt_of_lt_of_le h.lt hb.size,(hb.cell (p:=(N b 0 Z)) (by show b<B;omega)).trans h.c0,(hb.cell (p:=(N (b+1) 0 Z)) f).trans h.c1,(hb.cell (p:=(N (b+1) 1 Z)) f).trans h.c2⟩
theorem xK (w:M)(v s0 s1:ZB)(t u:ZH):AuBox ((w.alloc (J #[v] t)).alloc (J #[s0,s1] u)) (Q (U w)) v s0 s1 :=
 ⟨by simp,by simp[go_sem],by simp[go_sem],by simp[go_sem]⟩
