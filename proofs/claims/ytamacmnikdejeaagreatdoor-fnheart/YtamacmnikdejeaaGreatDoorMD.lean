import Derived.Test.YtamacmnikdejeaaGreatDoorProg
import Derived.WalkKit
import Derived.WalkSpells
import Derived.WalkLawsBesides
import Derived.Deep.OwnRows
import Derived.Deep.RegionWith
import Derived.Deep.QuietTactic
import Derived.BigQuiet
set_option maxHeartbeats 1000000
open Go renaming Addr.mk->Q,Value.slice->Y,Obj.cells->N,IntKind.i64->I,World->E,Value->ZB,TypeId->ZH,Ending.returned->ZF,World.heap->U,World.cell?->A,World.frozen?->z,Proofs.Tryz.prog->Pg
open Option renaming none->Z,some->T
open Bool renaming false->ZA,true->ZD
open Array renaming size->J
namespace Go.Proofs.YtamacmnikdejeaaGreatDoor.Vp
open Tryz RowKit
variable {w g V W u ZK:E}{b n off i p:Nat}{f:ZB}{a:Option Addr}{s:ByteArray}{t:ZH}{P:Nat->Prop}{fn:Func}{R:Ending->E->Prop}
theorem lj{a c:Nat}(h:a<b)(g:b<=c):a<c:=Nat.lt_of_lt_of_le h g
theorem BS (w:E):Below (J (U w)) w w:=Below.refl _ _
theorem br{B:Nat}:Below B w w:=Below.refl _ _
abbrev sq:=@World.cell?_setCell_other
abbrev qh:=@Below.heap_setCell
abbrev bp:=@bodyPost_ret
abbrev gq:=@List.getElem?_eq_getElem
abbrev cq:=@World.cell?_of_block
abbrev bg:=@Below.grown
abbrev gz:=@List.getElem_mem
abbrev nj:=@List.not_mem_nil
abbrev mq:=@List.mem_cons_of_mem
abbrev cM:=@Below.refl
abbrev eL:=@List.length_append
abbrev eT:=@if_neg
abbrev gM:=@heap_alloc_new
abbrev hU:=@List.mem_singleton
abbrev j4:=@Nat.lt_succ_self
abbrev j5:=@List.getElem?_eq_some_iff
abbrev j6:=@if_pos
abbrev nD:=@Bool.and_eq_true
abbrev nL:=@Nat.le_trans
abbrev nX:=@Nat.le_refl
abbrev p6:=@decide_eq_true_eq
abbrev p9:=@IntKind.wrap_i64
abbrev wC:=@List.mem_append
abbrev xT:=@List.length_cons
abbrev AD:=@Int.eq_ofNat_of_zero_le
abbrev AI:=@below_drewN
abbrev AT:=@List.length_singleton
abbrev A9:=@List.mem_cons
abbrev BG:=@Nat.lt_of_lt_of_le
abbrev BO:=@World.cell?_setCell_same'
abbrev CL:=@World.ownsRow_nil
abbrev CV:=@congrArg
abbrev DN:=@Array.getElem?_eq_some_iff
abbrev D0:=@Nat.le_succ
abbrev E4:=@wpList_append_own
abbrev IH:=@Nat.zero_le
abbrev IN:=@Option.some.inj
abbrev IS:=@List.getD_eq_getElem?_getD
abbrev IT:=@Nat.zero_add
abbrev J2:=@List.mem_of_getElem?
abbrev KE:=@List.flatMap_append
abbrev KF:=@List.length_nil
abbrev KH:=@Prod.mk.injEq
abbrev KI:=@List.map_append
abbrev KJ:=@Option.some.injEq
abbrev KK:=@Value.slice.injEq
abbrev KL:=@List.getElem?_append_right
abbrev KM:=@World.frozen?_of_block
abbrev KN:=@List.getElem?_map
abbrev KO:=@Nat.not_lt_zero
abbrev KP:=@List.getElem?_append_left
abbrev KQ:=@List.length_set
abbrev KT:=@underlying9
abbrev KU:=@List.append_assoc
abbrev KV:=@List.mem_range
abbrev KZ:=@info_parts
abbrev LA:=@List.nil_append
abbrev LB:=@List.mem_append_left
abbrev LC:=@List.pairwise_iff_getElem
abbrev LD:=@Array.getElem?_toList
abbrev LE:=@Array.getElem?_modify
abbrev LF:=@ByteArray.toList_eq
abbrev LG:=@List.length_pos_iff
abbrev LH:=@decide_eq_false_iff_not
abbrev LI:=@List.flatMap_cons
abbrev LJ:=@List.getElem?_eq_none
abbrev LK:=@underlying3
abbrev LL:=@underlying35
abbrev LM:=@List.mem_map
abbrev LN:=@List.mem_or_eq_of_mem_set
abbrev LP:=@List.length_drop
abbrev LQ:=@List.take_of_length_le
abbrev LU:=@underlying27
abbrev LV:=@World.ownsRow_made
abbrev LX:=@Nat.add_zero
abbrev LY:=@List.length_take
abbrev LZ:=@List.getElem?_of_mem
abbrev L8:=@List.getElem?_set_self
abbrev L9:=@Bool.eq_iff_iff
abbrev MB:=@List.range_succ
abbrev MC:=@List.cons_append
abbrev ME:=@List.mem_append_right
abbrev MG:=@Nat.lt_or_ge
abbrev MJ:=@of_decide_eq_true
abbrev MK:=@decide_eq_true
abbrev MN:=@List.pairwise_append
abbrev MO:=@ByteArray.size_append
abbrev MP:=@List.length_map
abbrev MQ:=@underlying5
abbrev MR:=@Bool.true_and
abbrev MS:=@Array.getElem?_eq_none
abbrev MU:=@underlying23
abbrev MV:=@underlying41
abbrev MW:=@underlying26
abbrev MX:=@decide_eq_false
abbrev MY:=@zeroValue3
abbrev MZ:=@Nat.min_eq_left
abbrev ND:=@Below.heap_setCell
abbrev NE:=@List.mem_flatMap
abbrev NF:=@underlying4
abbrev NG:=@Nat.add_sub_cancel
abbrev NH:=@List.mem_cons_self
abbrev NI:=@ntmps176
abbrev NJ:=@or_false
abbrev NK:=@List.getElem?_set_ne
abbrev NL:=@underlying22
abbrev NM:=@List.size_toArray
abbrev NN:=@results140
abbrev NO:=@Array.length_toList
abbrev NP:=@Option.map_eq_some_iff
abbrev NQ:=@func176
abbrev NR:=@Int.tmod_eq_emod_of_nonneg
abbrev NS:=@Array.toList_setIfInBounds
abbrev NT:=@List.find?_eq_none
abbrev NU:=@List.take_append_drop
abbrev NV:=@List.length_replicate
abbrev NW:=@List.findIdx?_eq_some_iff_getElem
abbrev NY:=@Classical.byContradiction
abbrev NZ:=@List.findIdx?_eq_none_iff
abbrev N5:=@zeroValue4
abbrev N9:=@zeroValue9
abbrev OD:=@underlying44
abbrev OH:=@List.mem_of_mem_take
abbrev OJ:=@Array.replicate_succ
abbrev ON:=@Array.replicate_zero
abbrev OR:=@Bool.and_true
abbrev OT:=@Addr.mk.injEq
abbrev OU:=@WideMaps.keyOf_string_mk
abbrev OV:=@List.append_toArray
abbrev PC:=@List.mem_map_of_mem
abbrev PD:=@Array.eq_empty_of_size_eq_zero
abbrev PE:=@results91
abbrev PH:=@beq_iff_eq
abbrev PI:=@underlying194
abbrev PJ:=@true_and
abbrev PK:=@heap_alloc2_new
abbrev PL:=@World.var?_cell
abbrev PM:=@results175
abbrev PO:=@Value.slice.inj
abbrev PQ:=@List.map_cons
abbrev PR:=@Sum.inl.injEq
abbrev PU:=@List.set_append_right
abbrev PV:=@List.countP_mono_left
abbrev PX:=@List.countP_le_length
abbrev P9:=@underlying21
abbrev QB:=@List.push_toArray
abbrev QC:=@List.ext_getElem?
abbrev QD:=@World.cell?_of_block
abbrev QE:=@Nat.mod_lt
abbrev QF:=@results20
abbrev QG:=@results21
abbrev QH:=@results89
abbrev QK:=@List.findIdx?_append
abbrev QL:=@List.cons_ne_nil
abbrev QM:=@Nat.le_of_lt
abbrev QN:=@List.any_eq_true
abbrev QO:=@Nat.zero_mul
abbrev QP:=@sizeOf3
abbrev QR:=@sizeOf4
abbrev QS:=@sizeOf9
abbrev QT:=@List.flatMap_map
abbrev QU:=@List.mem_of_find?_eq_some
abbrev QV:=@Decidable.byContradiction
abbrev QW:=@ntmps123
abbrev QX:=@Nat.lt_succ_iff_lt_or_eq
abbrev QY:=@Option.map_some
abbrev QZ:=@zeroValue5
abbrev Q0:=@underlying267
abbrev Q2:=@List.set_cons_succ
abbrev Q3:=@List.filter_append
abbrev Q9:=@List.findIdx?_cons
abbrev RC:=@Bool.not_eq_false'
abbrev RF:=@Below.alloc
abbrev RH:=@isAgg3
abbrev RJ:=@isAgg4
abbrev RL:=@isAgg9
abbrev RP:=@List.length_eq_zero_iff
abbrev RU:=@List.pairwise_singleton
abbrev RV:=@if_false
abbrev RY:=@func123
abbrev RZ:=@Nat.lt_of_succ_lt
abbrev R8:=@List.map_nil
abbrev SD:=@Nat.lt_trichotomy
abbrev SE:=@ntmps74
abbrev SF:=@ntmps73
abbrev SG:=@run_convert_bytes_back
abbrev SH:=@zeroValue267
abbrev SJ:=@Maps.string_keyed
abbrev SK:=@UInt8.not_lt
abbrev SL:=@results29
abbrev SN:=@List.take_add_one
abbrev SU:=@Nat.sub_self
abbrev SV:=@List.set_set
abbrev SY:=@DataW.trod_int
abbrev SZ:=@World.frozen?_setCell
abbrev TA:=@List.length_filter_le
abbrev TC:=@ownsRow_setCell_other
abbrev TF:=@ownsRow_setCell_below
abbrev TG:=@List.not_mem_nil
abbrev TH:=@underlying0
abbrev TI:=@zeroValue21
abbrev TJ:=@List.getElem_map
abbrev TM:=@Nat.le_add_right
abbrev TP:=@List.all_cons
abbrev TQ:=@func74
abbrev TS:=@func73
abbrev TT:=@List.set_append_left
abbrev TU:=@Bool.or_eq_false_iff
abbrev TV:=@results150
abbrev TW:=@IntKind.wrap_u8
abbrev TX:=@zeroValue0
abbrev TY:=@List.prefix_rfl
abbrev TZ:=@List.append_nil
abbrev T0:=@results154
abbrev T1:=@results157
abbrev T3:=@Exit.noGoto_ret
abbrev T7:=@List.getElem_of_mem
abbrev T8:=@List.dropWhile_cons
abbrev UB:=@List.map_congr_left
abbrev UC:=@func233
abbrev UE:=@sizeOf5
abbrev UF:=@List.all_nil
abbrev UG:=@Bool.false_and
abbrev UH:=@sizeOf267
abbrev UI:=@Lib.frozen_of_heap
abbrev UJ:=@heap_alloc_old
abbrev UK:=@underlying245
abbrev UL:=@List.prefix_append
abbrev UM:=@of_decide_eq_false
abbrev UN:=@results90
abbrev UO:=@List.getElem?_take
abbrev UQ:=@underlying153
abbrev UR:=@Nat.lt_or_gt_of_ne
abbrev US:=@results75
abbrev UT:=@Int.le_refl
abbrev UU:=@isAgg5
abbrev UV:=@ntmps104
abbrev UW:=@ntmps153
abbrev UX:=@ntmps171
abbrev UY:=@ByteArray.ext
abbrev UZ:=@sizeOf21
abbrev U2:=@isAgg267
abbrev U3:=@List.take_set
abbrev U6:=@func5
theorem ly:n<=n:=Nat.le_refl n
theorem ae{p:Prop}(h:p):Hid p:=h
theorem nzL{f:Type}:(∀(l:List f) (i:Nat) (a:f),l.toArray.setIfInBounds i a=(l.set i a).toArray)/\(∀(a b:f) (l:List f),(a::l).set 0 b=b::l)/\∀(a b:f) (l:List f) (i:Nat),(a::l).set (i+1) b=a::l.set i b :=
 ⟨λ_ _ _=>List.setIfInBounds_toArray ..,λ_ _ _=>rfl,λ_ _ _ _=>rfl⟩
theorem GF{f:E}(hb:Below (J (U W)) W f):(∀b o,b<J (U W)->A f (Q b o Z)=A W (Q b o Z))/\(∀b o,b<J (U W)->z f (Q b o Z)=z W (Q b o Z)) :=
 ⟨λb o h=>hb.cell (p:=(Q b o Z)) h,λb o h=>hb.frozen (p:=(Q b o Z)) h⟩
theorem cell_far (w:E)(p a:Addr)(v:ZB)(h:p.block≠a.block):(w.setCell p v).cell? a=w.cell? a :=
 World.cell?_of_block (w:=w) (a:=a) (Below.heap_setCell w p v a.block (λe=>h e.symm))
theorem bj{a b:Bool}(h:a=b):Ending.returned (.bool a)=ZF (.bool b):=by rw[h]
theorem fV{a b:ByteArray}(h:a=b):Ending.returned (.string a)=ZF (.string b):=by rw[h]
theorem lT (h:s.size=0):s=⟨#[]⟩:=by obtain⟨a⟩:=s;have:a.size=0:=h;rw[Array.eq_empty_of_size_eq_zero this]
theorem lY (h:¬ s.size=0):¬ s.toList=[]:=by
 intro e;have h2:s.toList.length=s.size:=by rw[ByteArray.toList_eq];rfl
 rw[e] at h2;simp at h2;omega
theorem nb1{c:Array ZB}{s:ZH}(h:w.alloc (N c s)=W):Hid (Below (J (U w)) w W)/\Hid (W.heap[J (U w)]?=T (N c s (0,0)))/\(J (U W))=J (U w)+1:=by subst h;exact⟨(Below.refl (J (U w)) w).alloc (Nat.le_refl _) _,heap_alloc_new w _,by simp⟩
theorem nb2{c d:Array ZB}{s:ZH}(h:(w.alloc (N c s)).alloc (N d t)=W):Hid (Below (J (U w)) w W)/\Hid (W.heap[J (U w)]?=T (N c s (0,0)))/\Hid (W.heap[J (U w)+1]?=T (N d t (0,0)))/\(J (U W))=J (U w)+2:=by obtain⟨ZR,K,ZS⟩:=nb1 (w:=w) (c:=c) (s:=s) rfl;obtain⟨B,ZO,y⟩:=nb1 h;rw[ZS] at B ZO y;exact⟨Below.trans ZR.out (B.out.mono (by omega)),(B.out.block _ (by omega)).trans K.out,ZO,y⟩
theorem nb3{c d f:Array ZB}{s u:ZH}(h:((w.alloc (N c s)).alloc (N d t)).alloc (N f u)=W):Hid (Below (J (U w)) w W)/\Hid (W.heap[J (U w)]?=T (N c s (0,0)))/\Hid (W.heap[J (U w)+1]?=T (N d t (0,0)))/\Hid (W.heap[J (U w)+2]?=T (N f u (0,0)))/\(J (U W))=J (U w)+3:=by obtain⟨ZR,K,L,ZS⟩:=nb2 (w:=w) (c:=c) (d:=d) (s:=s) (t:=t) rfl;obtain⟨B,ZO,y⟩:=nb1 h;rw[ZS] at B ZO y;exact⟨Below.trans ZR.out (B.out.mono (by omega)),(B.out.block _ (by omega)).trans K.out,(B.out.block _ (by omega)).trans L.out,ZO,y⟩
theorem al3 (h:∀j,P j):P 0/\P 1/\P 2:=⟨h 0,h 1,h 2⟩
theorem al6 (h:∀j,P j):P 0/\P 1/\P 2/\P 3/\P 4/\P 5:=⟨h 0,h 1,h 2,h 3,h 4,h 5⟩
theorem bl6 (h:∀j,j<6->P j):P 0/\P 1/\P 2/\P 3/\P 4/\P 5:=⟨h 0 (by decide),h 1 (by decide),h 2 (by decide),h 3 (by decide),h 4 (by decide),h 5 (by decide)⟩
structure Ins where
 op:Int
 s:ByteArray
 n:Int
def AtIns (w:E)(b off i:Nat)(x:Ins):Prop :=
 A w (Q b (off+i*3) Z)=T (.int I x.op)/\A w (Q b (off+i*3+1) Z)=T (.string x.s)/\A w (Q b (off+i*3+2) Z)=T (.int I x.n)
theorem AtIns.aa{B:Nat}{x:Ins}(h:AtIns w b off i x)(hb:Below B w g)(f:b<B):AtIns g b off i x :=
 ⟨(hb.cell (p:=(Q b _ Z)) f).trans h.1,(hb.cell (p:=(Q b _ Z)) f).trans h.2.1,(hb.cell (p:=(Q b _ Z)) f).trans h.2.2⟩
def RowIns (w:E)(b off n:Nat)(f:Nat->Ins):Prop:=b<J (U w)/\∀i,i<n->AtIns w b off i (f i)
theorem RowIns.aa{B:Nat}{f:Nat->Ins}(h:RowIns w b off n f)(hb:Below B w g)(j:J (U w)<=B):RowIns g b off n f :=
 ⟨Nat.lt_of_lt_of_le h.1 hb.size,λi hi=>(h.2 i hi).aa hb (Nat.lt_of_lt_of_le h.1 j)⟩
theorem RowIns.setOther{g:Nat}{f:Nat->Ins}(h:RowIns w g off n f)(p:Addr)(b:p.block≠g)(v:ZB):RowIns (w.setCell p v) g off n f:=by refine⟨by simpa using h.1,λi hi=>?_⟩;have h:=h.2 i hi;have far:∀o,(w.setCell p v).cell? (Q g o Z)=A w (Q g o Z):=λo=>World.cell?_of_block (w:=w) (a:=(Q g o Z)) (Below.heap_setCell w p v g (λe=>b e.symm));exact⟨(far _).trans h.1,(far _).trans h.2.1,(far _).trans h.2.2⟩
def SlIns (w:E)(a:Option Addr)(n:Nat)(f:Nat->Ins):Prop:=n=0∨∃b off,a=T (Q b off Z)/\RowIns w b off n f
theorem SlIns.aa{B:Nat}{f:Nat->Ins}(h:SlIns w a n f)(hb:Below B w g)(l:J (U w)<=B):SlIns g a n f:=by
 rcases h with h|⟨b,off,j,i⟩
 {exact .inl h};{exact .inr ⟨b,off,j,i.aa hb l⟩}
theorem RowIns.sl{f:Nat->Ins}(h:RowIns w b off n f):SlIns w (T (Q b off Z)) n f:=.inr ⟨b,off,rfl,h⟩
theorem nd:(Pg.info? 146).map (λi=>(i.zero,i.size,i.bytes))=T (T (.agg #[.int I 0,.string ⟨#[]⟩,.int I 0]),3,32):=by kernel_rfl
def kind:Int->Int
 |1=>1|3=>2|4=>2|5=>2|10=>3|11=>3|_=>0
def bT (op:Int):Int:=if op=1 then 2000 else 0
def dQ (op:Int):Int:=if op=3∨op=4∨op=5 then 2000 else if op=10∨op=11 then 200 else 0
def cG (op:Int)(sz:Nat)(n:Int):Bool:=decide (1<=op/\op<=15/\(sz:Int)<=bT op/\0<=n/\n<=dQ op)
theorem xn (op:Int)(s:ByteArray)(n:Int)(w:E)(g:s.size<=maxLen)(hz:¬ s.toList=[])(h0:0<s.size):Calls Pg 104 #[.agg #[.int I op,.string s,.int I n]] w λe b=>e=ZF (.bool (cG op s.size n))/\Below (J (U w)) w b:=by
 unfold maxLen at g;by_cases h:1<=op/\op<=15
 ·have f:op=1∨op=2∨op=3∨op=4∨op=5∨op=6∨op=7∨op=8∨op=9∨op=10∨op=11∨op=12∨op=13∨op=14∨op=15:=by omega
  clear h;rcases f with rfl|rfl|rfl|rfl|rfl|rfl|rfl|rfl|rfl|rfl|rfl|rfl|rfl|rfl|rfl;all_goals
   go_enter func104,ntmps104;go_wp2;all_goals go_ret
   all_goals refine⟨bj ?_,(Below.refl _ _).alloc (Nat.le_refl _) _⟩
   all_goals (rw[Bool.eq_iff_iff];generalize s.size=ZS at *;simp[cG,bT,dQ];try omega)
 ·rcases(show op<1∨15<op by omega) with h|h;all_goals
   go_enter func104,ntmps104;go_wp2;go_ret;refine⟨bj ?_,(Below.refl _ _).alloc (Nat.le_refl _) _⟩;rw[Bool.eq_iff_iff];simp[cG];omega
theorem xo (op:Int)(n:Int)(w:E):Calls Pg 104 #[.agg #[.int I op,.string ⟨#[]⟩,.int I n]] w λe f=>e=ZF (.bool (cG op 0 n))/\Below (J (U w)) w f:=by
 by_cases h:1<=op/\op<=15
 ·have b:op=1∨op=2∨op=3∨op=4∨op=5∨op=6∨op=7∨op=8∨op=9∨op=10∨op=11∨op=12∨op=13∨op=14∨op=15:=by omega
  clear h;rcases b with rfl|rfl|rfl|rfl|rfl|rfl|rfl|rfl|rfl|rfl|rfl|rfl|rfl|rfl|rfl;all_goals
   go_enter func104,ntmps104;go_wp2;all_goals go_ret
   all_goals refine⟨bj ?_,(Below.refl _ _).alloc (Nat.le_refl _) _⟩
   all_goals (rw[Bool.eq_iff_iff];simp[cG,bT,dQ];try omega)
 ·rcases(show op<1∨15<op by omega) with h|h;all_goals
   go_enter func104,ntmps104;go_wp2;go_ret;refine⟨bj ?_,(Below.refl _ _).alloc (Nat.le_refl _) _⟩;rw[Bool.eq_iff_iff];simp[cG];omega
theorem vh (op:Int)(s:ByteArray)(n:Int)(w:E)(b:s.size<=maxLen):Calls Pg 104 #[.agg #[.int I op,.string s,.int I n]] w λe f=>e=ZF (.bool (cG op s.size n))/\Below (J (U w)) w f:=by
 by_cases h:s.size=0;{have e:=lT h;subst e;exact xo op n w};{exact xn op s n w b (lY h) (by omega)}
theorem xp (k:Nat)(s:ByteArray)(n mt b:Int)(w:E)(h1:1<=(k:Int))(h2:(k:Int)<=15)
  (hT:A w (Q 0 (k*5+1) Z)=T (.int I mt)) (hN:A w (Q 0 (k*5+2) Z)=T (.int I b)) (hz:0<J (U w))
  (ht:(s.size:Int)<=mt) (hn:0<=n) :
  Calls Pg 153 #[.agg #[.int I k,.string s,.int I n]] w λe f=>e=ZF (.bool (decide (n<=b)))/\Below (J (U w)) w f:=by
 go_enter func153,ntmps153;go_wp2;go_quiet (fail);go_wp2;go_ret;exact⟨rfl,below_drewN ((Below.refl _ _).alloc (Nat.le_refl _) _) _⟩
theorem xq (k:Nat)(s:ByteArray)(n mt:Int)(w:E)(h1:1<=(k:Int))(h2:(k:Int)<=15)
  (hT:A w (Q 0 (k*5+1) Z)=T (.int I mt)) (hz:0<J (U w))
  (ht:(s.size:Int)<=mt) (hn:n<0) :
  Calls Pg 153 #[.agg #[.int I k,.string s,.int I n]] w λe b=>e=ZF (.bool ZA)/\Below (J (U w)) w b:=by
 have hd:decide (0<=n)=ZA:=by simp;omega
 go_enter func153,ntmps153;go_wp2;go_quiet (fail);go_wp2;go_ret;exact⟨rfl,below_drewN ((Below.refl _ _).alloc (Nat.le_refl _) _) _⟩
theorem xr (k:Nat)(s:ByteArray)(n mt:Int)(w:E)(h1:1<=(k:Int))(h2:(k:Int)<=15)
  (hT:A w (Q 0 (k*5+1) Z)=T (.int I mt)) (hz:0<J (U w))
  (ht:mt<(s.size:Int)) :
  Calls Pg 153 #[.agg #[.int I k,.string s,.int I n]] w λe b=>e=ZF (.bool ZA)/\Below (J (U w)) w b:=by
 have hd:decide ((s.size:Int)<=mt)=ZA:=by simp;omega
 go_enter func153,ntmps153;go_wp2;go_quiet (fail);go_wp2;go_ret;exact⟨rfl,below_drewN ((Below.refl _ _).alloc (Nat.le_refl _) _) _⟩
theorem xt (op:Int)(s:ByteArray)(n:Int)(w:E)(h:op<1∨15<op):Calls Pg 153 #[.agg #[.int I op,.string s,.int I n]] w λe b=>e=ZF (.bool ZA)/\Below (J (U w)) w b:=by
 rcases h with h|h;all_goals
  go_enter func153,ntmps153;go_wp2;go_ret;exact⟨rfl,(Below.refl _ _).alloc (Nat.le_refl _) _⟩
def Tab (w:E):Prop:=0<J (U w)/\∀k:Nat,k<16->A w (Q 0 (k*5+1) Z)=T (.int I (bT k))/\A w (Q 0 (k*5+2) Z)=T (.int I (dQ k))
theorem sV (op:Int)(s:ByteArray)(n:Int)(w:E)(b:Tab w):Calls Pg 153 #[.agg #[.int I op,.string s,.int I n]] w λe l=>e=ZF (.bool (cG op s.size n))/\Below (J (U w)) w l:=by
 by_cases h:1<=op/\op<=15;{obtain⟨k,rfl⟩:=Int.eq_ofNat_of_zero_le (show 0<=op by omega);obtain⟨h1,h2⟩:=h;obtain⟨i,j⟩:=b.2 k (by omega);by_cases f:(s.size:Int)<=bT k;{by_cases hn:0<=n;{have e:cG (k:Int) s.size n=decide (n<=dQ k):=(by unfold cG;rw[Bool.eq_iff_iff,decide_eq_true_eq,decide_eq_true_eq];exact⟨λh=>h.2.2.2.2,λh=>⟨h1,h2,f,hn,h⟩⟩);rw[e];exact xp k s n _ _ w h1 h2 i j b.1 f hn};{have e:cG (k:Int) s.size n=ZA:=(by unfold cG;rw[decide_eq_false_iff_not];exact λh=>hn h.2.2.2.1);rw[e];exact xq k s n _ w h1 h2 i b.1 f (by omega)}};{have e:cG (k:Int) s.size n=ZA:=(by unfold cG;rw[decide_eq_false_iff_not];exact λh=>f h.2.2.1);rw[e];exact xr k s n _ w h1 h2 i b.1 (by omega)}};{have e:cG op s.size n=ZA:=(by unfold cG;rw[decide_eq_false_iff_not];exact λg=>h ⟨g.1,g.2.1⟩);rw[e];exact xt op s n w (by omega)}
def cY (f:Nat->Ins):Nat->Bool
 |0=>ZD
 |k+1=>cY f k && cG (f k).op (f k).s.size (f k).n
theorem ri{f:Nat->Ins}{k:Nat}(h:k<=n)(hn:cY f n=ZD):cY f k=ZD:=by
 induction n with
 |zero =>
  obtain rfl:k=0:=by omega
  exact hn
 |succ m b =>
  by_cases e:k=m+1;{subst e;exact hn};{simp only[cY,Bool.and_eq_true] at hn;exact b (by omega) hn.1}
theorem o9{f:Nat->Ins}{k:Nat}(h:k<n)(b:cG (f k).op (f k).s.size (f k).n=ZA):cY f n=ZA:=by
 cases e:cY f n with
 |false=>rfl
 |true =>have h2:=ri (show k+1<=n by omega) e;simp[cY,b] at h2
def valid (f:Nat->Ins)(n:Nat):Bool:=cY f n && decide (1<=(n:Int)/\(n:Int)<=200)
theorem bF{f:Nat->Ins}(h:valid f n=ZD):cY f n=ZD/\1<=(n:Int)/\(n:Int)<=200:=by unfold valid at h;rw[Bool.and_eq_true,decide_eq_true_eq] at h;exact h
theorem jv{f:Nat->Ins}{k:Nat}(h:cY f n=ZD)(hk:k<n):cG (f k).op (f k).s.size (f k).n=ZD:=by have:=ri (show k+1<=n by omega) h;simp only[cY,Bool.and_eq_true] at this;exact this.2
theorem fN (b off n cap:Nat)(f:Nat->Ins)(w:E)(hn:n<=1048576)(hb:b<J (U w))(x:∀i,i<n->AtIns w b off i (f i))(u:∀i,i<n->(f i).s.size<=maxLen):Calls Pg 66 #[.agg #[Y (T (Q b off Z)) n cap]] w λe ZS=>e=ZF (.bool (valid f n))/\Below (J (U w)) w ZS:=by
 have ZR:=ae x;have B:=ae u;clear x u;go_enter func66,ntmps66;go_wp2;go_loopw [3] (λi wr=>∃k:Nat,k<=n/\i=.int I k/\cY f k=ZD/\Below (J (U w)+1) (w.alloc (N #[Y (T (Q b off Z)) n cap] 43)) wr) (λi _=>n - (intOf i).toNat);case atStart=>exact⟨0,by omega,rfl,rfl,Below.refl _ _⟩
 case round =>
  obtain⟨k,hk,rfl,o,g⟩:=hrel;have C:=ae g;have t:=ae o;have y:A wr (Q (J (U w)) 0 Z)=T (Y (T (Q b off Z)) n cap):=by rw[g.cell (p:=(Q (J (U w)) 0 Z)) (by simp)];simp
  have j:Hid (Below (J (U w)) w wr):=((Below.refl _ _).alloc (Nat.le_refl _) _).trans (g.mono (by omega));have r:J (U w)+1<=J (U wr):=by have:=g.size;simpa using this
  clear g o;by_cases h:k<n
  ·obtain⟨c0,c1,c2⟩:=(ZR k h).aa j hb;go_wp2_with fail;refine(vh _ _ _ _ (B k h)).mono ?_;rintro e ZS ⟨rfl,m⟩;have l:=ae m;clear m c0 c1 c2 y;cases hi:cG (f k).op (f k).s.size (f k).n with
   |false =>have q:=ae hi;clear hi;go_wp2;go_ret;refine⟨bj ?_,j.trans (l.mono j.size)⟩;simp[valid,o9 h q.out]
   |true =>have q:=ae hi;clear hi;go_wp2;exact⟨⟨k+1,by omega,by go_num,by simp[cY,t.out,q.out],C.trans (l.mono r)⟩,by simp[intOf];omega⟩
  ·have e:k=n:=by omega
   subst e;by_cases h1:1<=(k:Int)
   all_goals
    go_wp2;go_ret;refine⟨bj ?_,j⟩;rw[Bool.eq_iff_iff];simp[valid,t.out];try omega
theorem Tab.aa{f:E}{B:Nat}(h:Tab w)(hb:Below B w f)(g:0<B):Tab f :=
 ⟨Nat.lt_of_lt_of_le h.1 hb.size,λk b=>⟨(hb.cell (p:=(Q 0 _ Z)) g).trans (h.2 k b).1,(hb.cell (p:=(Q 0 _ Z)) g).trans (h.2 k b).2⟩⟩
theorem lZ (a:Option Addr)(n cap:Nat)(f:Nat->Ins)(w:E)(hn:n<=1048576)(h:(n:Int)<1∨200<(n:Int)):Calls Pg 116 #[.agg #[Y a n cap]] w λe b=>e=ZF (.bool (valid f n))/\Below (J (U w)) w b:=by
 have e:valid f n=ZA:=by unfold valid;rw[show decide (1<=(n:Int)/\(n:Int)<=200)=ZA by simp;omega,Bool.and_false]
 rw[e];clear e;rcases h with h|h;all_goals
  go_enter func116,ntmps116;go_wp2;go_ret;exact⟨rfl,(Below.refl _ _).alloc (Nat.le_refl _) _⟩
theorem se (b off n cap:Nat)(f:Nat->Ins)(w:E)(h1:1<=(n:Int))(h2:(n:Int)<=200)(hb:b<J (U w))(ZS:∀i,i<n->AtIns w b off i (f i))(p:Tab w):Calls Pg 116 #[.agg #[Y (T (Q b off Z)) n cap]] w λe t=>e=ZF (.bool (valid f n))/\Below (J (U w)) w t:=by
 have B:=ae ZS;have ZR:=ae p;have u:=p.1;have x:Hid (valid f n=cY f n):=by show valid f n=cY f n;unfold valid;rw[show decide (1<=(n:Int)/\(n:Int)<=200)=ZD by simp;omega,Bool.and_true]
 clear ZS p;go_enter func116,ntmps116;go_wp2;go_loopw [18] (λi wr=>∃k:Nat,k<=n/\i=.int I k/\cY f k=ZD/\Below (J (U w)) w wr) (λi _=>n - (intOf i).toNat);case atStart=>exact⟨0,by omega,rfl,rfl,(Below.refl _ _).alloc (Nat.le_refl _) _⟩
 case round =>
  obtain⟨k,hk,rfl,o,q⟩:=hrel;have g:=ae q;have y:=ae o;have h:J (U w)<=J (U wr):=q.size;clear q o;by_cases m:k<n
  ·obtain⟨c0,c1,c2⟩:=(B k m).aa g hb;go_wp2_with fail;refine(sV _ _ _ _ (ZR.aa (g.alloc h _) u)).mono ?_;rintro e t ⟨rfl,l⟩;have j:Hid (Below (J (U w)) w t):=(g.alloc h _).trans (l.mono (by simp;omega));clear l c0 c1 c2;cases hi:cG (f k).op (f k).s.size (f k).n with
   |false =>have r:=ae hi;clear hi;go_wp2;go_ret;refine⟨bj ?_,j⟩;rw[x.out,o9 m r.out]
   |true =>have r:=ae hi;clear hi;go_wp2;exact⟨⟨k+1,by omega,by go_num,by simp[cY,y.out,r.out],j⟩,by simp[intOf];omega⟩
  ·have e:k=n:=by omega
   subst e;go_wp2;go_ret;exact⟨bj (by rw[x.out,y.out]),g.out⟩
theorem sf (b off n cap:Nat)(f:Nat->Ins)(w:E)(hn:n<=1048576)(hb:b<J (U w))(l:∀i,i<n->AtIns w b off i (f i))(g:Tab w):Calls Pg 116 #[.agg #[Y (T (Q b off Z)) n cap]] w λe j=>e=ZF (.bool (valid f n))/\Below (J (U w)) w j:=by
 by_cases h:(n:Int)<1∨200<(n:Int)
 {exact lZ _ n cap f w hn h};{exact se b off n cap f w (by omega) (by omega) hb l g}
structure Only (b:Nat)(w w':E):Prop where
 os:w'.os=w.os
 tape:w'.tape=w.tape
 output:w'.output=w.output
 size:J (U w)<=J (U w')
 block:∀k,k<J (U w)->k≠b->w'.heap[k]?=w.heap[k]?
 ty:∀cs t fz,w.heap[b]?=T (N cs t fz)->∃cs',w'.heap[b]?=T (N cs' t fz)
theorem Only.refl (b:Nat)(w:E):Only b w w:=⟨rfl,rfl,rfl,Nat.le_refl _,λ_ _ _=>rfl,λf _ _ h=>⟨f,h⟩⟩
theorem ar{o:Obj}(h:w.heap[i]?=T o):i<J (U w):=by
 rcases Nat.lt_or_ge i (J (U w)) with b|b;{exact b};{rw[Array.getElem?_eq_none b] at h;cases h}
theorem ci{j:Nat}{f:Array ZB}{fz:Nat × Nat}(h:w.heap[b]?=T (N f t fz))(v:ZB):(w.setCell (Q b j Z) v).heap[b]?=T (N (f.setIfInBounds j v) t fz):=by simp only[World.setCell,Array.getElem?_modify,if_pos,h,Option.map_some];rfl
theorem Only.trans{v:E}(h:Only b u v)(k:Only b v w):Only b u w :=
 ⟨k.os.trans h.os,k.tape.trans h.tape,k.output.trans h.output,Nat.le_trans h.size k.size,λi hi f=>(k.block i (Nat.lt_of_lt_of_le hi h.size) f).trans (h.block i hi f),λg t fz hb=>let ⟨cs1,h1⟩:=h.ty g t fz hb;k.ty cs1 t fz h1⟩
theorem Only.q{f:E}(h:Below (J (U w)) w f):Only b w f:=⟨h.os,h.tape,h.output,h.size,λi hi _=>h.block i hi,λg _ _ hb=>⟨g,(h.block b (ar hb)).trans hb⟩⟩
theorem Only.drew (h:Only b u w):Only b u w.drew:=h.trans (Only.q (Below.refl _ _).drew)
theorem Only.al (h:Only b u w)(o:Obj):Only b u (w.alloc o):=h.trans (Only.q ((Below.refl _ _).alloc (Nat.le_refl _) _))
theorem Only.aa{B:Nat}{f:E}(h:Only b w f)(hB:B<=b)(hw:B<=J (U w)):Below B w f:=⟨h.os,h.tape,h.output,h.size,λk hk=>h.block k (by omega) (by omega)⟩
theorem Only.cell{f:E}(h:Only b w f)(k o:Nat)(g:k<J (U w))(hb:k≠b):A f (Q k o Z)=A w (Q k o Z):=World.cell?_of_block (w:=w) (a:=(Q k o Z)) (h.block k g hb)
theorem ce{a:E}(h:Only b a w)(j:Nat)(v:ZB):Only b a (w.setCell (Q b j Z) v) :=
 h.trans ⟨rfl,rfl,rfl,by simp[World.setCell],λk _ f=>Below.heap_setCell _ _ _ _ (by simpa using f),λ_ _ _ hb=>⟨_,ci hb v⟩⟩
theorem mc{P:Program}{a:Act}(b:fn.results=#[])(f:a.defers=[])(hR:R (ZF (.tuple #[])) w):bodyPost P fn R .normal a w :=
 bodyPost_end (v:=.tuple #[]) (by simp[results,b]) f hR
theorem qg{P:Program}{a:Act}(b:fn.results=#[])(f:a.defers=[])(hR:R (ZF (.tuple #[])) w):bodyPost P fn R .ret a w :=
 bodyPost_ret (v:=.tuple #[]) (by simp[results,b]) f hR
def Cs (w:E)(b n:Nat)(F:Nat->ZB):Prop:=b<J (U w)/\∀j,j<n->A w (Q b j Z)=T (F j)/\z w (Q b j Z)=ZA
theorem Cs.aa{i:E}{B:Nat}{F:Nat->ZB}(h:Cs w b n F)(hb:Below B w i)(f:b<B):Cs i b n F :=
 ⟨Nat.lt_of_lt_of_le h.1 hb.size,λj g=>⟨(hb.cell (p:=(Q b _ Z)) f).trans (h.2 j g).1,(hb.frozen (p:=(Q b _ Z)) f).trans (h.2 j g).2⟩⟩
theorem Cs.set{F G:Nat->ZB}(h:Cs w b n F)(j:Nat)(v:ZB)(i:∀x,x<n->G x=if x=j then v else F x):Cs (w.setCell (Q b j Z) v) b n G:=by
 refine⟨by simpa using h.1,λx f=>⟨?_,?_⟩⟩;{rw[i x f];by_cases e:x=j;{subst e;exact(World.cell?_setCell_same' _ _ _ (by rw[(h.2 x f).1];rfl)).trans (by simp)};{have g:((Q b j Z):Addr)≠(Q b x Z):=(by intro q;exact e (by simpa using q.symm));exact(World.cell?_setCell_other _ _ _ _ g).trans ((h.2 x f).1.trans (by simp[e]))}};{have:=(h.2 x f).2;simpa using this}
structure Turn where
 K:Bool
 M:Int
 H:ByteArray
 ask:Bool
 e:ByteArray
 j:Int
def Turn.v (t:Turn):ZB:=.agg #[.bool t.K,.int I t.M,.string t.H,.bool t.ask,.string t.e,.int I t.j]
def cU:Turn:=⟨ZA,0,⟨#[]⟩,ZA,⟨#[]⟩,0⟩
structure Mst where
 S:Nat->ByteArray
 size:Nat
 ao:Int
 j:Int
 looks:Int
 t:Turn
def Mst.F (b:ZB)(m:Mst)(j:Nat):ZB :=
 if j<50 then .string (m.S j) else if j=50 then .int I m.size else if j=51 then b else if j=52 then .int I m.ao else if j=53 then .int I m.j else if j=54 then .int I m.looks
 else if j=55 then .bool m.t.K else if j=56 then .int I m.t.M else if j=57 then .string m.t.H else if j=58 then .bool m.t.ask else if j=59 then .string m.t.e else if j=60 then .int I m.t.j else .int I 0
def MAt (w:E)(b:Nat)(f:ZB)(m:Mst):Prop:=Cs w b 61 (m.F f)
theorem MAt.aa{B:Nat}{m:Mst}(h:MAt w b f m)(hb:Below B w g)(i:b<B):MAt g b f m:=Cs.aa h hb i
theorem MAt.lt{m:Mst}(h:MAt w b f m):b<J (U w):=h.1
theorem MAt.txt{m:Mst}(h:MAt w b f m)(j:Nat)(g:j<50):A w (Q b j Z)=T (.string (m.S j))/\z w (Q b j Z)=ZA :=
 ⟨(h.2 j (by omega)).1.trans (by simp[Mst.F,g]),(h.2 j (by omega)).2⟩
theorem MAt.am{m:Mst}(h:MAt w b f m)(j:Nat)(v:ZB)(g:j<61)(i:m.F f j=v):A w (Q b j Z)=T v/\z w (Q b j Z)=ZA :=
 ⟨(h.2 j g).1.trans (by rw[i]),(h.2 j g).2⟩
def upd (S:Nat->ByteArray)(k:Nat)(t:ByteArray)(j:Nat):ByteArray:=if j=k then t else S j
theorem MAt.setTxt{m:Mst}(h:MAt w b f m)(k:Nat)(g:k<50)(t:ByteArray):MAt (w.setCell (Q b k Z) (.string t)) b f { m with S:=upd m.S k t } :=
 Cs.set h k _ (λx _=>by
  by_cases e:x=k
  ·subst e;simp[Mst.F,g,upd]
  ·simp[Mst.F,upd,e])
theorem MAt.setSize{m:Mst}(h:MAt w b f m)(k:Nat)(ZS:Int)(hz:ZS=k):MAt (w.setCell (Q b 50 Z) (.int I ZS)) b f { m with size:=k }:=by
 subst hz
 exact Cs.set h 50 _ (λx _=>by
  by_cases e:x=50;{subst e;simp[Mst.F]}
  ·simp[Mst.F,e])
theorem MAt.setPlace{m:Mst}(h:MAt w b f m)(k:Int):MAt (w.setCell (Q b 52 Z) (.int I k)) b f { m with ao:=k } :=
 Cs.set h 52 _ (λx _=>by
  by_cases e:x=52
  ·subst e;simp[Mst.F]
  ·simp[Mst.F,e])
theorem MAt.setSteps{m:Mst}(h:MAt w b f m)(k:Int):MAt (w.setCell (Q b 53 Z) (.int I k)) b f { m with j:=k } :=
 Cs.set h 53 _ (λx _=>by
  by_cases e:x=53
  ·subst e;simp[Mst.F]
  ·simp[Mst.F,e])
theorem MAt.setLooks{m:Mst}(h:MAt w b f m)(k:Int):MAt (w.setCell (Q b 54 Z) (.int I k)) b f { m with looks:=k } :=
 Cs.set h 54 _ (λx _=>by
  by_cases e:x=54
  ·subst e;simp[Mst.F]
  ·simp[Mst.F,e])
theorem MAt.set55{m:Mst}(h:MAt w b f m)(x:Bool):MAt (w.setCell (Q b 55 Z) (.bool x)) b f { m with t:={ m.t with K:=x } } :=
 Cs.set h 55 _ (λy hy=>by
  by_cases e:y=55
  ·subst e;simp[Mst.F]
  ·simp only[Mst.F,e,if_false])
theorem MAt.set56{m:Mst}(h:MAt w b f m)(x:Int):MAt (w.setCell (Q b 56 Z) (.int I x)) b f { m with t:={ m.t with M:=x } } :=
 Cs.set h 56 _ (λy hy=>by
  by_cases e:y=56
  ·subst e;simp[Mst.F]
  ·simp only[Mst.F,e,if_false])
theorem MAt.set57{m:Mst}(h:MAt w b f m)(x:ByteArray):MAt (w.setCell (Q b 57 Z) (.string x)) b f { m with t:={ m.t with H:=x } } :=
 Cs.set h 57 _ (λy hy=>by
  by_cases e:y=57
  ·subst e;simp[Mst.F]
  ·simp only[Mst.F,e,if_false])
theorem MAt.set58{m:Mst}(h:MAt w b f m)(x:Bool):MAt (w.setCell (Q b 58 Z) (.bool x)) b f { m with t:={ m.t with ask:=x } } :=
 Cs.set h 58 _ (λy hy=>by
  by_cases e:y=58
  ·subst e;simp[Mst.F]
  ·simp only[Mst.F,e,if_false])
theorem MAt.set59{m:Mst}(h:MAt w b f m)(x:ByteArray):MAt (w.setCell (Q b 59 Z) (.string x)) b f { m with t:={ m.t with e:=x } } :=
 Cs.set h 59 _ (λy hy=>by
  by_cases e:y=59
  ·subst e;simp[Mst.F]
  ·simp only[Mst.F,e,if_false])
theorem MAt.set60{m:Mst}(h:MAt w b f m)(x:Int):MAt (w.setCell (Q b 60 Z) (.int I x)) b f { m with t:={ m.t with j:=x } } :=
 Cs.set h 60 _ (λy hy=>by
  by_cases e:y=60
  ·subst e;simp[Mst.F]
  ·simp only[Mst.F,e,if_false])
theorem MAt.setTurn{m:Mst}(h:MAt w b f m)(t:Turn):MAt ((((((w.setCell (Q b 55 Z) (.bool t.K)).setCell (Q b 56 Z) (.int I t.M)).setCell (Q b 57 Z) (.string t.H)).setCell (Q b 58 Z) (.bool t.ask)).setCell (Q b 59 Z) (.string t.e)).setCell (Q b 60 Z) (.int I t.j)) b f { m with t:=t } :=
 (((((h.set55 t.K).set56 t.M).set57 t.H).set58 t.ask).set59 t.e).set60 t.j
theorem MAt.turn{m:Mst}(h:MAt w b f m):(A w (Q b 55 Z)=T (.bool m.t.K)/\z w (Q b 55 Z)=ZA)/\(A w (Q b 56 Z)=T (.int I m.t.M)/\z w (Q b 56 Z)=ZA)/\(A w (Q b 57 Z)=T (.string m.t.H)/\z w (Q b 57 Z)=ZA)/\(A w (Q b 58 Z)=T (.bool m.t.ask)/\z w (Q b 58 Z)=ZA)/\(A w (Q b 59 Z)=T (.string m.t.e)/\z w (Q b 59 Z)=ZA)/\(A w (Q b 60 Z)=T (.int I m.t.j)/\z w (Q b 60 Z)=ZA) :=
 ⟨h.am 55 _ (by omega) (by simp[Mst.F]),h.am 56 _ (by omega) (by simp[Mst.F]),h.am 57 _ (by omega) (by simp[Mst.F]),h.am 58 _ (by omega) (by simp[Mst.F]),h.am 59 _ (by omega) (by simp[Mst.F]),h.am 60 _ (by omega) (by simp[Mst.F])⟩
theorem Ep{a:E}(h:Only b a w)(t:Turn):Only b a ((((((w.setCell (Q b 55 Z) (.bool t.K)).setCell (Q b 56 Z) (.int I t.M)).setCell (Q b 57 Z) (.string t.H)).setCell (Q b 58 Z) (.bool t.ask)).setCell (Q b 59 Z) (.string t.e)).setCell (Q b 60 Z) (.int I t.j)) :=
 ce (ce (ce (ce (ce (ce h _ _) _ _) _ _) _ _) _ _) _ _
theorem qi (b:Nat)(g:ZB)(m:Mst)(t:ByteArray)(w:E)(hM:MAt w b g m)(i:m.size<50):Calls Pg 190 #[.pointer (T (Q b 0 Z)),.string t] w λe h=>e=ZF (.tuple #[])/\MAt h b g { m with S:=upd m.S m.size t,size:=m.size+1 }/\Only b w h:=by have j:=ae hM;obtain⟨c0,z0⟩:=hM.am 50 (.int I m.size) (by omega) (by simp[Mst.F]);obtain⟨c1,z1⟩:=hM.txt m.size i;clear hM;go_enter func190,ntmps190;go_wp2;go_region_with fail;have f:=ae ((j.setTxt m.size i t).aa (Below.refl _ _).drew (Nat.lt_succ_self _));clear c0 z0 c1 z1;obtain⟨c0,z0⟩:=f.am 50 (.int I m.size) (by omega) (by simp[Mst.F]);go_wp2;refine mc rfl rfl ?_;exact⟨rfl,f.setSize (m.size+1) _ (by simp),ce (ce (Only.refl _ _) _ _).drew _ _⟩
theorem kE (b:Nat)(g:ZB)(m:Mst)(k:Nat)(w:E)(hM:MAt w b g m)(i:m.size=k+1)(l:k<50):Calls Pg 221 #[.pointer (T (Q b 0 Z))] w λe h=>e=ZF (.string (m.S k))/\MAt h b g { m with size:=k }/\Only b w h:=by have j:=ae hM;obtain⟨c0,z0⟩:=hM.am 50 (.int I (k+1)) (by omega) (by simp[Mst.F,i]);clear hM;go_enter func221,ntmps221;go_wp2_with fail;have f:=ae (j.setSize k k rfl);obtain⟨c1,z1⟩:=f.txt k l;obtain⟨c2,z2⟩:=f.am 50 (.int I k) (by omega) (by simp[Mst.F]);clear c0 z0;go_region_with fail;go_wp2;go_ret;exact⟨rfl,f.aa (Below.refl _ _).drew (Nat.lt_succ_self _),(ce (Only.refl _ _) _ _).drew⟩
theorem jY (b:Nat)(f:ZB)(m:Mst)(c:Int)(t:ByteArray)(w:E)(hM:MAt w b f m):Calls Pg 192 #[.pointer (T (Q b 0 Z)),.int I c,.string t] w λe g=>e=ZF (.tuple #[])/\MAt g b f { m with t:=⟨ZD,c,t,ZA,⟨#[]⟩,m.j⟩ }/\Only b w g:=by have h:=ae hM;obtain⟨c0,z0⟩:=hM.am 53 (.int I m.j) (by omega) (by simp[Mst.F]);obtain⟨c5,z5⟩:=hM.am 55 (.bool m.t.K) (by omega) (by simp[Mst.F]);obtain⟨c6,z6⟩:=hM.am 56 (.int I m.t.M) (by omega) (by simp[Mst.F]);obtain⟨c7,z7⟩:=hM.am 57 (.string m.t.H) (by omega) (by simp[Mst.F]);obtain⟨c8,z8⟩:=hM.am 58 (.bool m.t.ask) (by omega) (by simp[Mst.F]);obtain⟨c9,z9⟩:=hM.am 59 (.string m.t.e) (by omega) (by simp[Mst.F]);obtain⟨c10,z10⟩:=hM.am 60 (.int I m.t.j) (by omega) (by simp[Mst.F]);clear hM;go_enter func192,ntmps192;go_wp2;refine mc rfl rfl ?_;exact⟨rfl,h.setTurn ⟨ZD,c,t,ZA,⟨#[]⟩,m.j⟩,ce (ce (ce (ce (ce (ce (Only.refl _ _) _ _) _ _) _ _) _ _) _ _) _ _⟩
def aS (k:Nat):Nat:=if k=2∨k=6∨k=8 then 2 else if k=0∨k=1∨k=10∨15<k then 0 else 1
def bJ (k:Nat):Nat:=if k=7∨k=8 then 2 else if k=0∨k=9∨k=10∨k=11∨13<k then 0 else 1
def Tab2 (w:E):Prop:=0<J (U w)/\∀k:Nat,k<16->A w (Q 0 (k*5+3) Z)=T (.int I (aS k))/\A w (Q 0 (k*5+4) Z)=T (.int I (bJ k))
theorem Tab2.aa{f:E}{B:Nat}(h:Tab2 w)(hb:Below B w f)(g:0<B):Tab2 f :=
 ⟨Nat.lt_of_lt_of_le h.1 hb.size,λk b=>⟨(hb.cell (p:=(Q 0 _ Z)) g).trans (h.2 k b).1,(hb.cell (p:=(Q 0 _ Z)) g).trans (h.2 k b).2⟩⟩
theorem bears_any (b:Nat)(g:ZB)(m:Mst)(k:Nat)(w:E)(hM:MAt w b g m)(f:Tab2 w)(h1:1<=(k:Int))(h2:(k:Int)<=15)(hs:m.size<=50):Calls Pg 211 #[.pointer (T (Q b 0 Z)),.int I k] w λe h=>e=ZF (.bool (decide (aS k<=m.size/\m.size - aS k+bJ k<=50)))/\Below (J (U w)) w h:=by
 have hT0:=f.1;obtain⟨c0,z0⟩:=hM.am 50 (.int I m.size) (by omega) (by simp[Mst.F]);obtain⟨t0,t1⟩:=f.2 k (by omega);have k1:aS k<=2:=by unfold aS;split<;>(try split)<;>omega
 have k2:bJ k<=2:=by unfold bJ;split<;>(try split)<;>omega
 clear hM f;generalize aS k=x at *;generalize bJ k=y at *;by_cases hx:x<=m.size;{go_enter func211,ntmps211;go_wp2_with fail;go_quiet (fail);go_wp2;go_ret;refine⟨bj ?_,below_drewN (Below.refl _ _) _⟩;rw[Bool.eq_iff_iff];simp;omega};{go_enter func211,ntmps211;go_wp2_with fail;go_quiet (fail);go_wp2_with fail;go_ret;refine⟨bj ?_,below_drewN (Below.refl _ _) _⟩;rw[Bool.eq_iff_iff];simp;omega}
def dG (s:ByteArray):Nat->Bool
 |0=>ZD
 |k+1=>dG s k && (match s.data[k]? with|some c=>decide (33<=c.toNat/\c.toNat<=126)|none=>ZA)
def aB (s:ByteArray):Bool:=decide (1<=s.size/\s.size<=60) && dG s s.size
theorem vi{k:Nat}(h:k<=n)(hn:dG s n=ZD):dG s k=ZD:=by
 induction n with
 |zero =>
  obtain rfl:k=0:=by omega
  exact hn
 |succ m b =>
  by_cases e:k=m+1;{subst e;exact hn};{simp only[dG,Bool.and_eq_true] at hn;exact b (by omega) hn.1}
theorem jK{k:Nat}(h:k<s.size):dG s (k+1)=(dG s k && decide (33<=s[k].toNat/\s[k].toNat<=126)):=by
 have e:s.data[k]?=T s[k]:=by rw[Array.getElem?_eq_getElem h];rfl
 rw[dG,e]
theorem gy{k:Nat}(h:k<s.size)(hk:¬ (33<=s[k].toNat/\s[k].toNat<=126)):dG s s.size=ZA:=by
 cases e:dG s s.size with
 |false=>rfl
 |true =>have h2:=vi (show k+1<=s.size by omega) e;rw[jK h] at h2;simp at h2;omega
theorem sW (s:ByteArray)(w:E)(F:Nat)(hF:(True/\F=123)∨F=44):Calls Pg F #[.string s] w λe n=>e=ZF (.bool (aB s))/\Below (J (U w)) w n:=by
 by_cases h1:1<=(s.size:Int)/\(s.size:Int)<=60
 ·have j:Hid (aB s=dG s s.size):=by
   show aB s=dG s s.size;unfold aB;rw[show decide (1<=s.size/\s.size<=60)=ZD by simp;omega,Bool.true_and]
  obtain⟨h1,h2⟩:=h1;rcases hF with ⟨M,rfl⟩|rfl;all_goals
   first|(guard_hyp M;go_enter func123,ntmps123)|go_enter func44,ntmps44
   go_wp2;first|(guard_hyp M;go_loopw [14] (λi wr=>∃k:Nat,k<=s.size/\i=.int I k/\dG s k=ZD/\Below (J (U w)) w wr) (λi _=>s.size - (intOf i).toNat))|go_loopw [3] (λi wr=>∃k:Nat,k<=s.size/\i=.int I k/\dG s k=ZD/\Below (J (U w)) w wr) (λi _=>s.size - (intOf i).toNat)
   case atStart=>exact⟨0,by omega,rfl,rfl,Below.refl _ _⟩
   case round =>
    obtain⟨k,hk,rfl,g,l⟩:=hrel;have f:=ae l;have m:=ae g;clear l g;by_cases b:k<s.size
    ·by_cases p1:33<=(s[k].toNat:Int)
     ·by_cases p2:(s[k].toNat:Int)<=126
      ·go_wp2
       exact⟨⟨k+1,by omega,by go_num,by rw[jK b,m.out];simp;omega,f⟩,by simp[intOf];omega⟩
      ·go_wp2
       go_ret;exact⟨bj (by rw[j.out,gy b (by omega)]),f⟩
     ·go_wp2
      go_ret;exact⟨bj (by rw[j.out,gy b (by omega)]),f⟩
    ·have e:k=s.size:=by omega
     subst e;go_wp2;go_ret;exact⟨bj (by rw[j.out,m.out]),f.out⟩
 ·rw[show aB s=ZA by unfold aB;rw[show decide (1<=s.size/\s.size<=60)=ZA by simp;omega,Bool.false_and]];by_cases h2:1<=(s.size:Int)
  ·have h3:¬ (s.size:Int)<=60:=λh=>h1 ⟨h2,h⟩;clear h1;rcases hF with ⟨M,rfl⟩|rfl;all_goals
    first|(guard_hyp M;go_enter func123,ntmps123)|go_enter func44,ntmps44
    go_wp2;go_ret;exact⟨rfl,Below.refl _ _⟩
  ·clear h1;rcases hF with ⟨M,rfl⟩|rfl;all_goals
    first|(guard_hyp M;go_enter func123,ntmps123)|go_enter func44,ntmps44
    go_wp2;go_ret;exact⟨rfl,Below.refl _ _⟩
abbrev eV (s:ByteArray)(w:E):=sW s w _ (.inl ⟨trivial,rfl⟩)
abbrev cV (s:ByteArray)(w:E):=sW s w _ (.inr rfl)
structure aC where
 has:Bool
 M:Int
 H:ByteArray
def AtReply (w:E)(b off i:Nat)(x:aC):Prop :=
 A w (Q b (off+i*3) Z)=T (.bool x.has)/\A w (Q b (off+i*3+1) Z)=T (.int I x.M)/\A w (Q b (off+i*3+2) Z)=T (.string x.H)
theorem AtReply.aa{B:Nat}{x:aC}(h:AtReply w b off i x)(hb:Below B w g)(f:b<B):AtReply g b off i x :=
 ⟨(hb.cell (p:=(Q b _ Z)) f).trans h.1,(hb.cell (p:=(Q b _ Z)) f).trans h.2.1,(hb.cell (p:=(Q b _ Z)) f).trans h.2.2⟩
def RowReply (w:E)(b off n:Nat)(f:Nat->aC):Prop:=b<J (U w)/\∀i,i<n->AtReply w b off i (f i)
theorem RowReply.aa{B:Nat}{f:Nat->aC}(h:RowReply w b off n f)(hb:Below B w g)(j:J (U w)<=B):RowReply g b off n f :=
 ⟨Nat.lt_of_lt_of_le h.1 hb.size,λi hi=>(h.2 i hi).aa hb (Nat.lt_of_lt_of_le h.1 j)⟩
structure Source where
 e:ByteArray
 H:ByteArray
def AtSource (w:E)(b off i:Nat)(x:Source):Prop :=
 A w (Q b (off+i*2) Z)=T (.string x.e)/\A w (Q b (off+i*2+1) Z)=T (.string x.H)
theorem AtSource.aa{B:Nat}{x:Source}(h:AtSource w b off i x)(hb:Below B w g)(f:b<B):AtSource g b off i x :=
 ⟨(hb.cell (p:=(Q b _ Z)) f).trans h.1,(hb.cell (p:=(Q b _ Z)) f).trans h.2⟩
def RowSource (w:E)(b off n:Nat)(f:Nat->Source):Prop:=b<J (U w)/\∀i,i<n->AtSource w b off i (f i)
theorem RowSource.aa{B:Nat}{f:Nat->Source}(h:RowSource w b off n f)(hb:Below B w g)(j:J (U w)<=B):RowSource g b off n f :=
 ⟨Nat.lt_of_lt_of_le h.1 hb.size,λi hi=>(h.2 i hi).aa hb (Nat.lt_of_lt_of_le h.1 j)⟩
def SlSource (w:E)(a:Option Addr)(n:Nat)(f:Nat->Source):Prop:=n=0∨∃b off,a=T (Q b off Z)/\RowSource w b off n f
theorem SlSource.aa{B:Nat}{f:Nat->Source}(h:SlSource w a n f)(hb:Below B w g)(l:J (U w)<=B):SlSource g a n f:=by
 rcases h with h|⟨b,off,j,i⟩
 {exact .inl h};{exact .inr ⟨b,off,j,i.aa hb l⟩}
theorem iH:(Pg.info? 121).map (λi=>(i.zero,i.size,i.bytes))=T (T (.agg #[.string ⟨#[]⟩,.string ⟨#[]⟩]),2,32):=by kernel_rfl
structure Target where
 e:ByteArray
 h:Nat
 u:Nat->Ins
def aX (x:Target):Prop:=x.h<=1048576
def AtTarget (w:E)(b off i:Nat)(x:Target):Prop :=
 A w (Q b (off+i*2) Z)=T (.string x.e)/\(∃a cap,A w (Q b (off+i*2+1) Z)=T (Y a x.h cap)/\SlIns w a x.h x.u)
theorem AtTarget.aa{l:E}{B:Nat}{x:Target}(h:AtTarget w b off i x)(hb:Below B w l)(f:J (U w)<=B)(j:b<J (U w)):AtTarget l b off i x:=by obtain⟨m,⟨a0,g,s0,r0⟩⟩:=h;refine⟨(hb.cell (p:=(Q b _ Z)) (Nat.lt_of_lt_of_le j f)).trans m,⟨a0,g,(hb.cell (p:=(Q b _ Z)) (Nat.lt_of_lt_of_le j f)).trans s0,r0.aa hb f⟩⟩
def RowTarget (w:E)(b off n:Nat)(f:Nat->Target):Prop:=b<J (U w)/\∀i,i<n->AtTarget w b off i (f i)
theorem RowTarget.aa{B:Nat}{f:Nat->Target}(h:RowTarget w b off n f)(hb:Below B w g)(j:J (U w)<=B):RowTarget g b off n f :=
 ⟨Nat.lt_of_lt_of_le h.1 hb.size,λi hi=>(h.2 i hi).aa hb j h.1⟩
def SlTarget (w:E)(a:Option Addr)(n:Nat)(f:Nat->Target):Prop:=n=0∨∃b off,a=T (Q b off Z)/\RowTarget w b off n f
theorem SlTarget.aa{B:Nat}{f:Nat->Target}(h:SlTarget w a n f)(hb:Below B w g)(l:J (U w)<=B):SlTarget g a n f:=by
 rcases h with h|⟨b,off,j,i⟩
 {exact .inl h};{exact .inr ⟨b,off,j,i.aa hb l⟩}
theorem fA:(Pg.info? 125).map (λi=>(i.zero,i.size,i.bytes))=T (T (.agg #[.string ⟨#[]⟩,Y Z 0 0]),2,40):=by kernel_rfl
def RowStr (w:E)(b off n:Nat)(f:Nat->ByteArray):Prop:=b<J (U w)/\∀i,i<n->A w (Q b (off+i) Z)=T (.string (f i))
theorem RowStr.aa{B:Nat}{f:Nat->ByteArray}(h:RowStr w b off n f)(hb:Below B w g)(j:J (U w)<=B):RowStr g b off n f :=
 ⟨Nat.lt_of_lt_of_le h.1 hb.size,λi hi=>(hb.cell (p:=(Q b _ Z)) (Nat.lt_of_lt_of_le h.1 j)).trans (h.2 i hi)⟩
def SlStr (w:E)(a:Option Addr)(n:Nat)(f:Nat->ByteArray):Prop:=n=0∨∃b off,a=T (Q b off Z)/\RowStr w b off n f
theorem SlStr.aa{B:Nat}{f:Nat->ByteArray}(h:SlStr w a n f)(hb:Below B w g)(l:J (U w)<=B):SlStr g a n f:=by
 rcases h with h|⟨b,off,j,i⟩
 {exact .inl h};{exact .inr ⟨b,off,j,i.aa hb l⟩}
theorem gA:(Pg.info? 9).map (λi=>(i.zero,i.size,i.bytes))=T (T (.string ⟨#[]⟩),1,16):=by kernel_rfl
theorem xu (f:Nat->Ins):valid f 0=ZA:=by simp[valid]
theorem me (a:Option Addr)(n cap:Nat)(f:Nat->Ins)(w:E)(hn:n<=1048576)(i:SlIns w a n f)(h:Tab w):Calls Pg 116 #[.agg #[Y a n cap]] w λe j=>e=ZF (.bool (valid f n))/\Below (J (U w)) w j:=by
 rcases i with rfl|⟨b,off,rfl,g⟩
 {exact lZ a 0 cap f w (by omega) (by simp)};{exact sf b off n cap f w hn g.1 g.2 h}
theorem sj (a:Option Addr)(cap:Nat)(f:Nat->Ins)(w:E):Calls Pg 66 #[.agg #[Y a 0 cap]] w λe g=>e=ZF (.bool (valid f 0))/\Below (J (U w)) w g:=by
 rw[xu];have b:=ae ((Below.refl (J (U w)) w).alloc (Nat.le_refl _) (N #[Y a 0 cap] 43));go_enter func66,ntmps66;go_wp2;go_loop [3] (λi=>i=.int I 0) (λ_=>0);case atStart=>rfl
 case round =>subst hrel;go_wp2;go_ret;exact⟨rfl,b⟩
theorem i8 (a:Option Addr)(n cap:Nat)(f:Nat->Ins)(w:E)(hn:n<=1048576)(h:SlIns w a n f)(l:∀i,i<n->(f i).s.size<=maxLen):Calls Pg 66 #[.agg #[Y a n cap]] w λe j=>e=ZF (.bool (valid f n))/\Below (J (U w)) w j:=by
 rcases h with rfl|⟨b,off,rfl,g⟩
 {exact sj a cap f w};{exact fN b off n cap f w hn g.1 g.2 l}
structure Link where
 e:ByteArray
 ask:Bool
 has:Bool
 G:Int
def AtLink (w:E)(b off i:Nat)(x:Link):Prop :=
 A w (Q b (off+i*4) Z)=T (.string x.e)/\A w (Q b (off+i*4+1) Z)=T (.bool x.ask)/\A w (Q b (off+i*4+2) Z)=T (.bool x.has)/\A w (Q b (off+i*4+3) Z)=T (.int I x.G)
theorem AtLink.aa{B:Nat}{x:Link}(h:AtLink w b off i x)(hb:Below B w g)(f:b<B):AtLink g b off i x :=
 ⟨(hb.cell (p:=(Q b _ Z)) f).trans h.1,(hb.cell (p:=(Q b _ Z)) f).trans h.2.1,(hb.cell (p:=(Q b _ Z)) f).trans h.2.2.1,(hb.cell (p:=(Q b _ Z)) f).trans h.2.2.2⟩
def RowLink (w:E)(b off n:Nat)(f:Nat->Link):Prop:=b<J (U w)/\∀i,i<n->AtLink w b off i (f i)
theorem RowLink.aa{B:Nat}{f:Nat->Link}(h:RowLink w b off n f)(hb:Below B w g)(j:J (U w)<=B):RowLink g b off n f :=
 ⟨Nat.lt_of_lt_of_le h.1 hb.size,λi hi=>(h.2 i hi).aa hb (Nat.lt_of_lt_of_le h.1 j)⟩
def SlLink (w:E)(a:Option Addr)(n:Nat)(f:Nat->Link):Prop:=n=0∨∃b off,a=T (Q b off Z)/\RowLink w b off n f
theorem SlLink.aa{B:Nat}{f:Nat->Link}(h:SlLink w a n f)(hb:Below B w g)(l:J (U w)<=B):SlLink g a n f:=by
 rcases h with h|⟨b,off,j,i⟩
 {exact .inl h};{exact .inr ⟨b,off,j,i.aa hb l⟩}
theorem kF:(Pg.info? 129).map (λi=>(i.zero,i.size,i.bytes))=T (T (.agg #[.string ⟨#[]⟩,.bool ZA,.bool ZA,.int I 0]),4,32):=by kernel_rfl
structure au where
 e:ByteArray
 L:Int
 M:Int
 H:ByteArray
 h:Nat
 u:Nat->Ins
 f:Nat
 m:Nat->Link
def ie (x:au):Prop:=x.e.size<=maxLen/\x.H.size<=maxLen/\((x.h:Int)<=9223372036854775807/\∀j,j<x.h->(x.u j).s.size<=maxLen)/\((x.f:Int)<=9223372036854775807/\∀j,j<x.f->(x.m j).e.size<=maxLen)
def dw (x:au):Prop:=x.h<=1048576/\x.f<=1048576
def AtDeed (w:E)(b off i:Nat)(x:au):Prop :=
 A w (Q b (off+i*6) Z)=T (.string x.e)/\A w (Q b (off+i*6+1) Z)=T (.int I x.L)/\A w (Q b (off+i*6+2) Z)=T (.int I x.M)/\A w (Q b (off+i*6+3) Z)=T (.string x.H)/\(∃a cap,A w (Q b (off+i*6+4) Z)=T (Y a x.h cap)/\SlIns w a x.h x.u)/\(∃a cap,A w (Q b (off+i*6+5) Z)=T (Y a x.f cap)/\SlLink w a x.f x.m)
theorem AtDeed.aa{m:E}{B:Nat}{x:au}(h:AtDeed w b off i x)(hb:Below B w m)(f:J (U w)<=B)(g:b<J (U w)):AtDeed m b off i x:=by obtain⟨q,r,o,n,⟨a0,l,s0,r0⟩,⟨a1,j,s1,r1⟩⟩:=h;refine⟨(hb.cell (p:=(Q b _ Z)) (Nat.lt_of_lt_of_le g f)).trans q,(hb.cell (p:=(Q b _ Z)) (Nat.lt_of_lt_of_le g f)).trans r,(hb.cell (p:=(Q b _ Z)) (Nat.lt_of_lt_of_le g f)).trans o,(hb.cell (p:=(Q b _ Z)) (Nat.lt_of_lt_of_le g f)).trans n,⟨a0,l,(hb.cell (p:=(Q b _ Z)) (Nat.lt_of_lt_of_le g f)).trans s0,r0.aa hb f⟩,⟨a1,j,(hb.cell (p:=(Q b _ Z)) (Nat.lt_of_lt_of_le g f)).trans s1,r1.aa hb f⟩⟩
def RowDeed (w:E)(b off n:Nat)(f:Nat->au):Prop:=b<J (U w)/\∀i,i<n->AtDeed w b off i (f i)
theorem RowDeed.aa{B:Nat}{f:Nat->au}(h:RowDeed w b off n f)(hb:Below B w g)(j:J (U w)<=B):RowDeed g b off n f :=
 ⟨Nat.lt_of_lt_of_le h.1 hb.size,λi hi=>(h.2 i hi).aa hb j h.1⟩
def SlDeed (w:E)(a:Option Addr)(n:Nat)(f:Nat->au):Prop:=n=0∨∃b off,a=T (Q b off Z)/\RowDeed w b off n f
theorem SlDeed.aa{B:Nat}{f:Nat->au}(h:SlDeed w a n f)(hb:Below B w g)(l:J (U w)<=B):SlDeed g a n f:=by
 rcases h with h|⟨b,off,j,i⟩
 {exact .inl h};{exact .inr ⟨b,off,j,i.aa hb l⟩}
theorem fR:(Pg.info? 46).map (λi=>(i.zero,i.size,i.bytes))=T (T (.agg #[.string ⟨#[]⟩,.int I 0,.int I 0,.string ⟨#[]⟩,Y Z 0 0,Y Z 0 0]),6,96):=by kernel_rfl
def dt (n:Nat):Array ZB:=madeCells (Value.agg #[.string ⟨#[]⟩,.int I 0,.int I 0,.string ⟨#[]⟩,Y Z 0 0,Y Z 0 0]).cells (n*6)
theorem FZ (n:Nat)(hn:n<=1048576)(w:E):(Instr.makeSlice 23 (.int I (n:Int)) (.int I (n:Int))).run Pg w=.ok (Y (T (Q (J (U w)) 0 Z)) n n) (w.alloc (N (dt n) 46)):=by obtain⟨i,hi,hz⟩:=Option.map_eq_some_iff.1 fR;simp only[Prod.mk.injEq] at hz;obtain⟨h1,h2,b⟩:=hz;have h:=run_make (P:=Pg) w 23 46 i _ underlying23 hi h1 I I n n (by omega) (Int.le_refl _) (by rw[b];omega) (by omega);rw[h2] at h;simpa[dt] using h
def dH (f:Nat->au)(p:Nat)(l:Link):Bool :=
 aB l.e && (if l.ask=ZD then !l.has && decide (0<=l.G) && decide (l.G<(p:Int)) && ((f l.G.toNat).e.toList == l.e.toList) else decide (l.G=0))
def bI (f:Nat->au)(p:Nat)(x:au):Nat->Bool
 |0=>ZD
 |k+1=>bI f p x k && dH f p (x.m k)
def aU (x:au):Bool:=decide (x.M=0) && decide (x.h=0) && decide (x.f=0)
def bW (f:Nat->au)(p:Nat)(x:au):Bool:=decide (0<=x.M) && decide (x.M<=5) && valid x.u x.h && decide (x.f<=200) && bI f p x x.f
def kindOk (f:Nat->au)(p:Nat)(x:au):Bool :=
 if x.L=1 then aU x else if x.L=2 then aU x && decide (x.H.size=0) else if x.L=3 then bW f p x else ZA
def bi (f:Nat->au)(p:Nat):Bool:=aB (f p).e && decide ((f p).H.size<=2000) && kindOk f p (f p)
def aR (f:Nat->au)(p:Nat):Nat->Bool
 |0=>ZD
 |k+1=>aR f p k && !((f k).e.toList == (f p).e.toList)
def aI (g:Nat->Bool):Nat->Int
 |0=>-1
 |k+1=>if aI g k=-1 then (if g k=ZD then -1 else k) else aI g k
theorem dX{g:Nat->Bool}(h:∀i,i<n->g i=ZD):aI g n=-1:=by
 induction n with
 |zero=>rfl
 |succ k b =>rw[aI,if_pos (b λi hi=>h i (by omega)),if_pos (h k (by omega))]
theorem fB{g:Nat->Bool}(hi:i<n)(b:g i=ZA)(h:∀j,j<i->g j=ZD):aI g n=i:=by
 induction n with
 |zero=>omega
 |succ k f =>
  rw[aI];by_cases e:i=k;{subst e;rw[if_pos (dX h),if_neg (by rw[b];simp)]};{have:=f (by omega);rw[this,if_neg (by omega)]}
theorem ep{g:Nat->Bool}(h:aI g n=-1):∀i,i<n->g i=ZD:=by
 induction n with
 |zero=>intro i hi;omega
 |succ k b =>
  rw[aI] at h;split at h
  ·rename_i h1;intro i hi;by_cases e:i=k
   ·subst e;cases hg:g i with
    |true=>rfl
    |false=>rw[hg] at h;simp at h
   {exact b h1 i (by omega)}
  {rename_i h1;exact absurd h h1}
theorem kG{f:Nat->au}{x:au}(h:bI f p x n=ZD):∀i,i<n->dH f p (x.m i)=ZD:=by
 induction n with
 |zero=>intro i hi;omega
 |succ k b =>
  simp only[bI,Bool.and_eq_true] at h;intro i hi;by_cases e:i=k;{subst e;exact h.2};{exact b h.1 i (by omega)}
def lks (go:Nat->Nat->(Nat->Bool)->(Nat->Bool) × List (Nat × Nat))(x:au)(d:Nat)(s:Nat->Bool):Nat->(Nat->Bool) × List (Nat × Nat)
 |0=>(s,[])
 |j+1=>if (x.m j).ask=ZD/\(lks go x d s j).1 (x.m j).G.toNat=ZA then ((go (x.m j).G.toNat (d+1) (lks go x d s j).1).1,(lks go x d s j).2++(go (x.m j).G.toNat (d+1) (lks go x d s j).1).2) else lks go x d s j
def put (s:Nat->Bool)(p:Nat):Nat->Bool:=λq=>q == p || s q
def lst (f:Nat->au):Nat->Nat->Nat->(Nat->Bool)->(Nat->Bool) × List (Nat × Nat)
 |0,_,_,s=>(s,[])
 |k+1,p,d,s=>(put (lks (lst f k) (f p) d s (f p).f).1 p,(lks (lst f k) (f p) d s (f p).f).2++[(p,d)])
def fC (f:Nat->au)(n:Nat):Prop:=∀p,p<n->∀i,i<(f p).f->((f p).m i).ask=ZD->((f p).m i).G.toNat<p/\0<=((f p).m i).G
def cnt (s:Nat->Bool):Nat->Nat
 |0=>0
 |k+1=>cnt s k+(if s k=ZD then 1 else 0)
theorem F0 (s:Nat->Bool)(n:Nat):cnt s n<=n:=by
 induction n with
 |zero=>simp[cnt]
 |succ k ih=>rw[cnt];split<;>omega
theorem zc{s b:Nat->Bool}(h:∀q,q<n->s q=b q):cnt s n=cnt b n:=by
 induction n with
 |zero=>rfl
 |succ k f=>rw[cnt,cnt,f λq hq=>h q (by omega),h k (by omega)]
theorem Ey{s:Nat->Bool}(hp:p<n)(h:s p=ZA):cnt (put s p) n=cnt s n+1:=by
 induction n with
 |zero=>omega
 |succ k b =>
  rw[cnt,cnt];by_cases e:p=k
  ·subst e;have h1:cnt (put s p) p=cnt s p:=zc λq hq=>by simp[put];omega
   simp[h1,put,h]
  ·have h1:put s p k=s k:=by simp[put];omega
   rw[b (by omega),h1];omega
structure Lsd (n p d:Nat)(s:Nat->Bool)(r:(Nat->Bool) × List (Nat × Nat)):Prop where
 far:∀q,p<q->r.1 q=s q
 old:∀q,s q=ZD->r.1 q=ZD
 num:cnt r.1 n=cnt s n+r.2.length
 last:∃o,r.2=o++[(p,d)]
 le:∀x∈r.2,x.1<=p
theorem wv {f:Nat->au}{n k p d:Nat}{s:Nat->Bool}(t:fC f n)(l:p<n)(go:∀q d s,q<p->s q=ZA->Lsd n q d s (lst f k q d s)):∀j,j<=(f p).f->(∀q,p<=q->(lks (lst f k) (f p) d s j).1 q=s q)/\(∀q,s q=ZD->(lks (lst f k) (f p) d s j).1 q=ZD)/\cnt (lks (lst f k) (f p) d s j).1 n=cnt s n+(lks (lst f k) (f p) d s j).2.length/\∀x∈(lks (lst f k) (f p) d s j).2,x.1<p
 |0,_=>⟨λ_ _=>rfl,λ_ h=>h,by simp[lks],by simp[lks]⟩
 |j+1,hj=>by
  obtain⟨h1,h2,r,m⟩:=wv (d:=d) (s:=s) t l go j (by omega);rw[lks];split
  ·rename_i o
   have u:=(t p l j (by omega) o.1).1;have g:=go _ (d+1) _ u o.2;refine⟨λq i=>(g.far q (by omega)).trans (h1 q i),λq i=>g.old q (h2 q i),?_,λx b=>?_⟩
   ·show cnt (lst f k _ (d+1) _).1 n=_
    rw[g.num,r,List.length_append];omega
   ·rcases List.mem_append.1 b with b|b
    ·exact m x b
    ·have:=g.le x b
     omega
  ·exact⟨h1,h2,r,m⟩
theorem qj {f:Nat->au}{n:Nat}(j:fC f n):∀k p d s,p<k->p<n->s p=ZA->Lsd n p d s (lst f k p d s)
 |0,_,_,_,h,_,_=>absurd h (Nat.not_lt_zero _)
 |k+1,p,d,s,hk,hn,i=>by
  obtain⟨h1,h2,m,l⟩:=wv (d:=d) (s:=s) j hn (λq d s g i=>qj j k q d s (by omega) (by omega) i) (f p).f (Nat.le_refl _);have o:=(h1 p (Nat.le_refl _)).trans i;refine⟨λq g=>?_,λq g=>?_,?_,⟨_,rfl⟩,λx b=>?_⟩
  ·show put _ p q=s q
   rw[put,h1 q (by omega)];simp;omega
  ·show put _ p q=ZD
   rw[put,h2 q g];simp
  ·show cnt (put _ p) n=_
   rw[Ey hn o,m];simp[lst,List.length_append];omega
  ·rcases List.mem_append.1 b with b|b
   ·exact Nat.le_of_lt (l x b)
   ·simp at b
    subst b;exact Nat.le_refl _
theorem ww {f:Nat->au}{n:Nat}(g:fC f n):∀k p d s q,p<n->p<q->lst f k p d (put s q)=(put (lst f k p d s).1 q,(lst f k p d s).2)
 |0,_,_,_,_,_,_=>rfl
 |k+1,p,d,s,q,hn,hq=>by
  have i:∀j,j<=(f p).f->lks (lst f k) (f p) d (put s q) j=(put (lks (lst f k) (f p) d s j).1 q,(lks (lst f k) (f p) d s j).2):=by
   intro j;induction j with
   |zero=>intro _;rfl
   |succ j m =>
    intro hj;have e:=m (by omega);rw[lks,lks,e];by_cases b:((f p).m j).ask=ZD
    ·have ha:=(g p hn j (by omega) b).1
     have l:put (lks (lst f k) (f p) d s j).1 q ((f p).m j).G.toNat=(lks (lst f k) (f p) d s j).1 ((f p).m j).G.toNat:=by simp[put];omega
     simp only[l,b,true_and];split
     ·rw[ww g k _ (d+1) _ q (by omega) (by omega)]
     ·rfl
    ·rw[if_neg (λh=>b h.1),if_neg (λh=>b h.1)]
  have e:=i (f p).f (Nat.le_refl _);rw[lst,lst,e];simp only[Prod.mk.injEq,and_true];funext x;simp only[put];cases h1:x == p<;>cases h2:x == q<;>simp
def bB:Nat->List (Nat × Nat)->Int
 |_,[]=>-1
 |i,x::xs=>if x.1=i then bB (i+1) xs else i
def aY (f:Nat->au):List (Nat × Nat)->Int
 |[]=>-1
 |x::xs=>if (f x.1).L=3/\60<=x.2 then x.1 else aY f xs
def aD (f:Nat->au)(n:Nat):List (Nat × Nat):=(lst f n (n - 1) 0 (λ_=>ZA)).2
def dh (f:Nat->au)(n:Nat):Int × Int :=
 if n=0∨400<n then (1,0) else
 if aI (bi f) n≠-1 then (2,aI (bi f) n) else
 if aI (λp=>aR f p p) n≠-1 then (3,aI (λp=>aR f p p) n) else
 if bB 0 (aD f n)≠-1 then (4,bB 0 (aD f n)) else
 if aY f (aD f n)≠-1 then (5,aY f (aD f n)) else (0,0)
theorem gP{f:Nat->au}(h:aI (bi f) n=-1):fC f n:=by
 intro p j i hi b;have h1:=ep h p j;simp only[bi,Bool.and_eq_true,kindOk] at h1;obtain⟨_,h2⟩:=h1;split at h2;{simp[aU] at h2;omega};{split at h2;{simp[aU] at h2;omega};{split at h2;{simp only[bW,Bool.and_eq_true] at h2;have g:=kG h2.2 i hi;simp only[dH,b,if_true,Bool.and_eq_true,decide_eq_true_eq] at g;omega};{cases h2}}}
theorem rj (x:au)(a0:Option Addr)(f:Nat)(a1:Option Addr)(b:Nat)(w:E):Calls Pg 169 #[.agg #[.string x.e,.int I x.L,.int I x.M,.string x.H,Y a0 x.h f,Y a1 x.f b]] w λe l=>e=ZF (.agg #[.bool (decide (¬ x.L=2)),.int I x.M,.string x.H])/\Below (J (U w)) w l:=by
 have i:=ae ((Below.refl (J (U w)) w).alloc (Nat.le_refl _) (N #[.string x.e,.int I x.L,.int I x.M,.string x.H,Y a0 x.h f,Y a1 x.f b] 46));obtain⟨r,g⟩:∃r,r=decide (¬ x.L=2):=⟨_,rfl⟩
 rw[<-g];have j:=ae g;clear g;go_enter func169,ntmps169;by_cases h:x.L=2
 ·obtain rfl:r=ZA:=by rw[j.out];simp[h]
  go_wp2
  exact bodyPost_ret (v:=.agg #[.bool ZA,.int I x.M,.string x.H]) (by simp[results,results169,go_sem]) rfl ⟨rfl,by
   repeat (first|exact i|exact Below.refl _ _|refine Below.alloc ?_ (by simp<;>omega) _)⟩
 ·obtain rfl:r=ZD:=by rw[j.out];simp[h]
  go_wp2
  exact bodyPost_ret (v:=.agg #[.bool ZD,.int I x.M,.string x.H]) (by simp[results,results169,go_sem,h]) rfl ⟨rfl,by
   repeat (first|exact i|exact Below.refl _ _|refine Below.alloc ?_ (by simp<;>omega) _)⟩
def SBx (V:E)(b:Nat)(f g:ZB):Prop:=V.heap[b]?=T (N #[f,g] 29 (0,0))
theorem SBx.c0{g:ZB}(h:SBx V b f g):A V (Q b 0 Z)=T f:=by have i:V.heap[b]?=T (N #[f,g] 29 (0,0)):=h;simp[World.cell?,i]
theorem SBx.c1{g:ZB}(h:SBx V b g f):A V (Q b 1 Z)=T f:=by have i:V.heap[b]?=T (N #[g,f] 29 (0,0)):=h;simp[World.cell?,i]
theorem SBx.aa{B:Nat}{g:ZB}(h:SBx V b f g)(hb:Below B V ZK)(i:J (U V)<=B):SBx ZK b f g :=
 (hb.block b (Nat.lt_of_lt_of_le (ar h) i)).trans h
def PBx (V:E)(b:Nat)(f:ZB):Prop:=V.heap[b]?=T (N #[f] 43 (0,0))
structure PP (V:E)(pb g pm pc:Nat)(fp:Nat->Ins):Prop where
 p:PBx V pb (Y (T (Q g 0 Z)) pm pc)
 i:RowIns V g 0 pm fp
def AB (V:E)(b:Nat)(v:ZB):Prop:=V.heap[b]?=T (N #[v] 25 (0,0))
theorem AB.c0{v:ZB}(h:AB V b v):A V (Q b 0 Z)=T v:=by have f:V.heap[b]?=T (N #[v] 25 (0,0)):=h;simp[World.cell?,f]
def RB (V:E)(b:Nat)(k:Int)(t:ByteArray)(v:ZB):Prop:=V.heap[b]?=T (N #[.int I k,.string t,v] 37 (0,0))
theorem AB.aa{B:Nat}{v:ZB}(h:AB V b v)(hb:Below B V ZK)(f:J (U V)<=B):AB ZK b v :=
 (hb.block b (Nat.lt_of_lt_of_le (ar h) f)).trans h
def jL (x y:Ins):Bool:=x.op == y.op && x.s.toList == y.s.toList && x.n == y.n
def cH (f g:Nat->Ins):Nat->Bool
 |0=>ZD
 |k+1=>cH f g k && jL (f k) (g k)
def cB (f g:Nat->Ins)(n m:Nat):Bool:=decide (n=m) && cH f g n
theorem pa{f g:Nat->Ins}{k:Nat}(h:k<=n)(hn:cH f g n=ZD):cH f g k=ZD:=by
 induction n with
 |zero =>
  obtain rfl:k=0:=by omega
  exact hn
 |succ m b =>
  by_cases e:k=m+1;{subst e;exact hn};{simp only[cH,Bool.and_eq_true] at hn;exact b (by omega) hn.1}
theorem jM{f g:Nat->Ins}{k:Nat}(h:k<n)(b:jL (f k) (g k)=ZA):cH f g n=ZA:=by
 cases e:cH f g n with
 |false=>rfl
 |true =>have h2:=pa (show k+1<=n by omega) e;simp[cH,b] at h2
theorem vj (s:ByteArray)(w:E):Calls Pg 123 #[.string s] w λe m=>e=ZF (.bool (aB s))/\m=w:=by
 by_cases h1:1<=(s.size:Int)
 ·by_cases h2:(s.size:Int)<=60
  ·have h:Hid (aB s=dG s s.size):=by
    show aB s=dG s s.size;unfold aB;rw[show decide (1<=s.size/\s.size<=60)=ZD by simp;omega,Bool.true_and]
   go_enter func123,ntmps123;go_wp2;go_loopw [14] (λi wr=>∃k:Nat,k<=s.size/\i=.int I k/\dG s k=ZD/\wr=w) (λi _=>s.size - (intOf i).toNat);case atStart=>exact⟨0,by omega,rfl,rfl,rfl⟩
   case round =>
    obtain⟨k,hk,rfl,g,l⟩:=hrel;have f:=ae l;have j:=ae g;clear l g;by_cases b:k<s.size
    ·by_cases p1:33<=(s[k].toNat:Int)
     {by_cases p2:(s[k].toNat:Int)<=126;{go_wp2;exact⟨⟨k+1,by omega,by go_num,by rw[jK b,j.out];simp;omega,f⟩,by simp[intOf];omega⟩};{go_wp2;go_ret;exact⟨bj (by rw[h.out,gy b (by omega)]),f⟩}};{go_wp2;go_ret;exact⟨bj (by rw[h.out,gy b (by omega)]),f⟩}
    ·have e:k=s.size:=by omega
     subst e;go_wp2;go_ret;exact⟨bj (by rw[h.out,j.out]),f.out⟩
  {have e:aB s=ZA:=(by unfold aB;rw[show decide (1<=s.size/\s.size<=60)=ZA by simp;omega,Bool.false_and]);rw[e];clear e;go_enter func123,ntmps123;go_wp2;go_ret;exact⟨rfl,rfl⟩}
 {have e:aB s=ZA:=(by unfold aB;rw[show decide (1<=s.size/\s.size<=60)=ZA by simp;omega,Bool.false_and]);rw[e];clear e;go_enter func123,ntmps123;go_wp2;go_ret;exact⟨rfl,rfl⟩}
structure AuBox (W:E)(b:Nat)(v s0 s1:ZB):Prop where
 lt:b+1<J (U W)
 c0:A W (Q b 0 Z)=T v
 c1:A W (Q (b+1) 0 Z)=T s0
 c2:A W (Q (b+1) 1 Z)=T s1
theorem AuBox.aa{f:E}{B:Nat}{v s0 s1:ZB}(h:AuBox W b v s0 s1)(hb:Below B W f)(g:b+1<B):AuBox f b v s0 s1 :=
 ⟨Nat.lt_of_lt_of_le h.lt hb.size,(hb.cell (p:=(Q b 0 Z)) (by show b<B;omega)).trans h.c0,(hb.cell (p:=(Q (b+1) 0 Z)) g).trans h.c1,(hb.cell (p:=(Q (b+1) 1 Z)) g).trans h.c2⟩
theorem ze (w:E)(v s0 s1:ZB)(t u:ZH):AuBox ((w.alloc (N #[v] t)).alloc (N #[s0,s1] u)) (J (U w)) v s0 s1 :=
 ⟨by simp,by simp[go_sem],by simp[go_sem],by simp[go_sem]⟩
