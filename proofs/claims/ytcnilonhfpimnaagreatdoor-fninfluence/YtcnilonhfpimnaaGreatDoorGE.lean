import Derived.Test.YtcnilonhfpimnaaGreatDoorProg
import Derived.WalkKit
import Derived.WalkSpells
import Derived.WalkLawsBesides
import Derived.Deep.OwnRows
import Derived.Deep.RegionWith
import Derived.Deep.QuietTactic
import Derived.BigQuiet
set_option linter.all false
abbrev Eq.k:=@Eq.trans
abbrev Iff.k:=@Iff.trans
abbrev List.IsPrefix.k:=@List.IsPrefix.trans
abbrev List.Perm.k:=@List.Perm.trans
abbrev Go.RowKit.Below.k:=@Go.RowKit.Below.trans
abbrev Go.RowKit.Hid.i:=@Go.RowKit.Hid.out
abbrev Go.Calls.P:=@Go.Calls.mono
abbrev Go.CallsD.P:=@Go.CallsD.mono
abbrev Go.CallsIn.P:=@Go.CallsIn.mono
abbrev Go.RoundIn.P:=@Go.RoundIn.mono
abbrev Go.RowKit.Below.P:=@Go.RowKit.Below.mono
abbrev Go.World.ownsMap.P:=@Go.World.ownsMap.mono
abbrev Go.RowKit.Below.p:=@Go.RowKit.Below.block
abbrev Go.World.grownBy.p:=@Go.World.grownBy.block
abbrev Go.RowKit.Below.O:=@Go.RowKit.Below.cell
abbrev Go.World.grownBy.O:=@Go.World.grownBy.cell
abbrev Eq.c:=@Eq.symm
abbrev Ne.c:=@Ne.symm
abbrev Iff.c:=@Iff.symm
abbrev List.Perm.c:=@List.Perm.symm
set_option maxHeartbeats 1000000
open Go renaming Addr.mk->T,Value.slice->Y,Obj.cells->N,IntKind.i64->I,World->E,Value->ZB,TypeId->ZK,Ending.returned->ZI,World.heap->U,World.cell?->z,World.frozen?->ZU,World.setCell->A,Proofs.Tryz.prog->Pg,Calls->Qw
open Option renaming none->Z,some->Q
open Bool renaming false->ZA,true->ZH
open Array renaming size->J
namespace Go.Proofs.YtcnilonhfpimnaaGreatDoor.Vp
abbrev B_:=Nat->ByteArray
abbrev O_:=Option Addr
abbrev F_:=ByteArray
open Tryz RowKit
variable {w g V W ZN u:E}{b n off i j p:Nat}{f:ZB}{a:O_}{s:F_}{t:ZK}{P:Nat->Prop}{fn:Func}{R:Ending->E->Prop}
def lj{a c:Nat}(h:a<b)(g:b<=c):a<c:=Nat.lt_of_lt_of_le h g
def BS (w:E):Below (J (U w)) w w:=Below.refl _ _
def br{B:Nat}:Below B w w:=Below.refl _ _
abbrev sq:=@World.cell?_setCell_other
abbrev qh:=@Below.heap_setCell
abbrev bp:=@bodyPost_ret
abbrev gq:=@List.getElem?_eq_getElem
abbrev cq:=@World.cell?_of_block
abbrev bg:=@Below.grown
abbrev gz:=@List.getElem_mem
abbrev nj:=@List.not_mem_nil
abbrev mq:=@List.mem_cons_of_mem
abbrev a8:=@Below.refl
abbrev cM:=@List.length_append
abbrev eI:=@if_neg
abbrev eL:=@Nat.lt_succ_self
abbrev eT:=@if_pos
abbrev gM:=@heap_alloc_new
abbrev j4:=@List.mem_singleton
abbrev j5:=@List.getElem?_eq_some_iff
abbrev j6:=@Bool.and_eq_true
abbrev nD:=@decide_eq_true_eq
abbrev nL:=@IntKind.wrap_i64
abbrev nX:=@Nat.le_trans
abbrev p7:=@Nat.le_refl
abbrev p8:=@List.mem_append
abbrev p9:=@Int.eq_ofNat_of_zero_le
abbrev vF:=@List.length_cons
abbrev vG:=@List.mem_cons
abbrev xT:=@congrArg
abbrev AD:=@below_drewN
abbrev AI:=@List.length_singleton
abbrev AT:=@Nat.lt_of_lt_of_le
abbrev BO:=@World.cell?_setCell_same'
abbrev BV:=@Nat.le_succ
abbrev CL:=@List.getD_eq_getElem?_getD
abbrev CP:=@World.ownsRow_nil
abbrev CV:=@Array.getElem?_eq_some_iff
abbrev DN:=@wpList_append_own
abbrev DW:=@Nat.zero_le
abbrev D0:=@List.pairwise_iff_getElem
abbrev ES:=@underlying9
abbrev E4:=@List.mem_range
abbrev IH:=@Option.some.inj
abbrev IN:=@Value.slice.injEq
abbrev IS:=@List.length_nil
abbrev IT:=@Nat.zero_add
abbrev I5:=@List.mem_of_getElem?
abbrev J1:=@List.flatMap_append
abbrev KK:=@List.getElem?_append_right
abbrev LK:=@Prod.mk.injEq
abbrev LR:=@List.getElem?_map
abbrev L8:=@Option.some.injEq
abbrev ND:=@List.map_append
abbrev NE:=@Nat.not_lt_zero
abbrev NF:=@World.frozen?_of_block
abbrev NG:=@underlying43
abbrev NH:=@List.getElem?_append_left
abbrev NI:=@List.length_set
abbrev NJ:=@ByteArray.toList_eq
abbrev NM:=@List.mem_map
abbrev NN:=@List.length_drop
abbrev NO:=@info_parts
abbrev NP:=@List.append_assoc
abbrev NQ:=@Array.getElem?_modify
abbrev NR:=@List.nil_append
abbrev NS:=@Array.getElem?_toList
abbrev NT:=@List.getElem?_eq_none
abbrev NU:=@List.take_of_length_le
abbrev NV:=@List.length_pos_iff
abbrev NW:=@List.mem_append_left
abbrev NY:=@decide_eq_false_iff_not
abbrev NZ:=@List.flatMap_cons
abbrev N9:=@List.length_take
abbrev OD:=@underlying3
abbrev OH:=@Bool.eq_iff_iff
abbrev OJ:=@underlying27
abbrev ON:=@List.mem_or_eq_of_mem_set
abbrev OR:=@Nat.lt_or_ge
abbrev OT:=@of_decide_eq_true
abbrev OU:=@World.ownsRow_made
abbrev OV:=@List.cons_append
abbrev PC:=@List.pairwise_append
abbrev PD:=@List.getElem?_of_mem
abbrev PE:=@List.getElem?_set_self
abbrev PH:=@List.range_succ
abbrev PI:=@List.length_map
abbrev PJ:=@List.mem_append_right
abbrev PK:=@zeroValue9
abbrev PL:=@Array.getElem?_eq_none
abbrev PO:=@underlying5
abbrev PQ:=@underlying4
abbrev PR:=@Classical.byContradiction
abbrev PU:=@ByteArray.size_append
abbrev PV:=@zeroValue3
abbrev PX:=@List.pairwise_cons
abbrev P9:=@Bool.true_and
abbrev QB:=@underlying23
abbrev QC:=@decide_eq_true
abbrev QD:=@underlying35
abbrev QE:=@Nat.add_zero
abbrev QF:=@List.size_toArray
abbrev QG:=@underlying26
abbrev QH:=@Bool.not_eq_false
abbrev QK:=@List.getElem_of_mem
abbrev QL:=@Nat.min_eq_left
abbrev QM:=@zeroValue4
abbrev QN:=@List.take_append_drop
abbrev QO:=@Below.heap_setCell
abbrev QP:=@List.mem_flatMap
abbrev QR:=@Nat.add_sub_cancel
abbrev QS:=@WideMaps.keyOf_string_mk
abbrev QT:=@sizeOf9
abbrev QU:=@ntmps144
abbrev QV:=@or_false
abbrev QW:=@List.mem_of_mem_take
abbrev QX:=@Array.replicate_succ
abbrev QY:=@Array.replicate_zero
abbrev QZ:=@List.getElem?_set_ne
abbrev Q2:=@underlying22
abbrev Q3:=@results104
abbrev Q9:=@Array.length_toList
abbrev RC:=@List.append_toArray
abbrev RF:=@Option.map_eq_some_iff
abbrev RH:=@func144
abbrev RJ:=@Addr.mk.injEq
abbrev RP:=@isAgg9
abbrev RU:=@underlying0
abbrev RV:=@Int.tmod_eq_emod_of_nonneg
abbrev RY:=@Array.toList_setIfInBounds
abbrev R8:=@List.mem_cons_self
abbrev SD:=@List.find?_eq_none
abbrev SF:=@List.length_replicate
abbrev SH:=@List.findIdx?_eq_some_iff_getElem
abbrev SJ:=@List.findIdx?_eq_none_iff
abbrev SL:=@heap_alloc2_new
abbrev SN:=@zeroValue0
abbrev SU:=@results120
abbrev SV:=@underlying60
abbrev SY:=@Maps.string_keyed
abbrev SZ:=@List.push_toArray
abbrev TA:=@sizeOf4
abbrev TC:=@Bool.and_true
abbrev TF:=@List.take_append_getElem
abbrev TG:=@Nat.lt_succ_iff_lt_or_eq
abbrev TH:=@Array.eq_empty_of_size_eq_zero
abbrev TI:=@List.any_eq_true
abbrev TJ:=@Bool.not_eq_true
abbrev TM:=@List.getElem_map
abbrev TP:=@isAgg4
abbrev TQ:=@Nat.le_of_lt
abbrev TS:=@beq_iff_eq
abbrev TT:=@sizeOf3
abbrev TU:=@underlying218
abbrev TV:=@List.getElem?_take
abbrev TW:=@underlying178
abbrev TX:=@true_and
abbrev TY:=@zeroValue5
abbrev TZ:=@World.var?_cell
abbrev T0:=@results143
abbrev T6:=@Value.slice.inj
abbrev T7:=@List.map_cons
abbrev T8:=@Sum.inl.injEq
abbrev T9:=@List.set_append_right
abbrev UB:=@List.countP_mono_left
abbrev UC:=@List.countP_le_length
abbrev UE:=@underlying21
abbrev UF:=@zeroValue218
abbrev UG:=@List.ext_getElem?
abbrev UH:=@World.cell?_of_block
abbrev UI:=@if_false
abbrev UJ:=@Nat.mod_lt
abbrev UK:=@heap_alloc_old
abbrev UL:=@isAgg3
abbrev UM:=@results12
abbrev UN:=@results13
abbrev UO:=@results67
abbrev UQ:=@List.findIdx?_append
abbrev UR:=@Nat.zero_mul
abbrev UU:=@sizeOf0
abbrev UV:=@Nat.sub_self
abbrev UW:=@List.flatMap_map
abbrev UX:=@List.drop_eq_getElem_cons
abbrev UY:=@List.mem_of_find?_eq_some
abbrev UZ:=@Decidable.byContradiction
abbrev U2:=@List.mem_map_of_mem
abbrev U3:=@ntmps113
abbrev U6:=@Nat.add_assoc
abbrev U7:=@Option.map_some
abbrev U8:=@decide_eq_false
abbrev U9:=@List.mem_filter
abbrev VA:=@List.set_cons_succ
abbrev VB:=@of_decide_eq_false
abbrev VC:=@List.filter_append
abbrev VE:=@List.findIdx?_cons
abbrev VF:=@Bool.not_eq_false'
abbrev VG:=@Below.alloc
abbrev VH:=@List.getElem?_cons_succ
abbrev VI:=@isAgg0
abbrev VJ:=@List.length_eq_zero_iff
abbrev VK:=@List.pairwise_singleton
abbrev VL:=@func113
abbrev VM:=@Nat.lt_of_succ_lt
abbrev VN:=@List.map_nil
abbrev VO:=@Nat.lt_trichotomy
abbrev VQ:=@List.lt_irrefl
abbrev VR:=@ntmps28
abbrev VT:=@ntmps27
abbrev VU:=@run_convert_bytes_back
abbrev VV:=@Nat.le_of_eq
abbrev VW:=@sizeOf5
abbrev VX:=@sizeOf218
abbrev VY:=@UInt8.not_lt
abbrev VZ:=@List.getElem_drop
abbrev V4:=@List.take_add_one
abbrev V5:=@List.set_set
abbrev V8:=@DataW.trod_int
abbrev WE:=@World.frozen?_setCell
abbrev WF:=@List.length_filter_le
abbrev WG:=@ownsRow_setCell_other
abbrev WH:=@ownsRow_setCell_below
abbrev WI:=@Nat.le_of_ble_eq_true
abbrev WJ:=@List.not_mem_nil
abbrev WK:=@zeroValue21
abbrev WM:=@zeroValue43
abbrev WN:=@List.cons_ne_nil
abbrev WO:=@List.ext_getElem
abbrev WP:=@Nat.le_add_right
abbrev WR:=@isAgg218
abbrev WT:=@List.all_cons
abbrev WU:=@func28
abbrev WV:=@func27
abbrev WW:=@List.set_append_left
abbrev WZ:=@wpList_mapUpdate_own
abbrev XB:=@isAgg5
abbrev XC:=@Bool.or_eq_false_iff
abbrev XE:=@List.mem_of_mem_drop
abbrev XF:=@results126
abbrev XG:=@IntKind.wrap_u8
abbrev XH:=@List.prefix_rfl
abbrev XI:=@List.append_nil
abbrev XJ:=@results130
abbrev XK:=@results133
abbrev XO:=@Exit.noGoto_ret
abbrev XP:=@beq_eq_false_iff_ne
abbrev XR:=@List.dropWhile_cons
abbrev XS:=@List.map_congr_left
abbrev XU:=@callsIn_wide
abbrev XV:=@func211
abbrev XX:=@List.all_nil
abbrev YC:=@Bool.false_and
abbrev YD:=@Lib.frozen_of_heap
abbrev YE:=@Maps.has_put_other
abbrev YF:=@World.ownsMap_made
abbrev YG:=@underlying211
abbrev YH:=@List.prefix_append
abbrev YI:=@underlying258
abbrev YJ:=@List.getElem?_drop
abbrev YK:=@results14
abbrev YL:=@results68
abbrev YM:=@underlying114
abbrev YO:=@Nat.lt_or_gt_of_ne
abbrev YQ:=@results75
abbrev YR:=@Int.le_refl
abbrev YS:=@ntmps129
abbrev YT:=@ntmps139
abbrev YU:=@ByteArray.ext
abbrev YV:=@List.take_set
abbrev YX:=@callsIn_of_wp
abbrev YY:=@sizeOf21
abbrev YZ:=@sizeOf43
abbrev Y2:=@if_true
abbrev Y9:=@func3
def ly:n<=n:=Nat.le_refl n
def ae{p:Prop}(h:p):Hid p:=h
def z_{f:Type}:(∀(l:List f) (i:Nat) (a:f),l.toArray.setIfInBounds i a=(l.set i a).toArray)/\(∀(a b:f) (l:List f),(a::l).set 0 b=b::l)/\∀(a b:f) (l:List f) (i:Nat),(a::l).set (i+1) b=a::l.set i b:=
 ⟨λ_ _ _=>List.setIfInBounds_toArray ..,λ_ _ _=>rfl,λ_ _ _ _=>rfl⟩
def Jl{f:E}(hb:Below (J (U W)) W f):(∀b o,b<J (U W)->z f (T b o Z)=z W (T b o Z))/\(∀b o,b<J (U W)->ZU f (T b o Z)=ZU W (T b o Z)):=
 ⟨λb o h=>hb.O (p:=(T b o Z)) h,λb o h=>hb.frozen (p:=(T b o Z)) h⟩
def K_ (w:E)(p a:Addr)(v:ZB)(h:p.block≠a.block):(w.setCell p v).cell? a=w.cell? a:=
 World.cell?_of_block (w:=w) (a:=a) (Below.heap_setCell w p v a.block (λe=>h e.c))
def bv{a b:Bool}(h:a=b):Ending.returned (.bool a)=ZI (.bool b):=by rw[h]
def gH{a b:F_}(h:a=b):Ending.returned (.string a)=ZI (.string b):=by rw[h]
def mR (h:s.size=0):s=⟨#[]⟩:=by obtain⟨a⟩:=s;have:a.size=0:=h;rw[Array.eq_empty_of_size_eq_zero this]
def mX (h:¬ s.size=0):¬ s.toList=[]:=by
 intro e;have h2:s.toList.length=s.size:=by rw[ByteArray.toList_eq];rfl
 rw[e] at h2;simp at h2;omega
def nb1{c:Array ZB}{s:ZK}(h:w.alloc (N c s)=W):Hid (Below (J (U w)) w W)/\Hid (W.heap[J (U w)]?=Q (N c s (0,0)))/\(J (U W))=J (U w)+1:=by subst h;exact⟨(Below.refl (J (U w)) w).alloc (Nat.le_refl _) _,heap_alloc_new w _,by simp⟩
def nb2{c d:Array ZB}{s:ZK}(h:(w.alloc (N c s)).alloc (N d t)=W):Hid (Below (J (U w)) w W)/\Hid (W.heap[J (U w)]?=Q (N c s (0,0)))/\Hid (W.heap[J (U w)+1]?=Q (N d t (0,0)))/\(J (U W))=J (U w)+2:=by obtain⟨ZV,K,ZW⟩:=nb1 (w:=w) (c:=c) (s:=s) rfl;obtain⟨B,ZR,y⟩:=nb1 h;rw[ZW] at B ZR y;exact⟨Below.trans ZV.i (B.i.P (by omega)),(B.i.p _ (by omega)).k K.i,ZR,y⟩
def nb3{c d f:Array ZB}{s u:ZK}(h:((w.alloc (N c s)).alloc (N d t)).alloc (N f u)=W):Hid (Below (J (U w)) w W)/\Hid (W.heap[J (U w)]?=Q (N c s (0,0)))/\Hid (W.heap[J (U w)+1]?=Q (N d t (0,0)))/\Hid (W.heap[J (U w)+2]?=Q (N f u (0,0)))/\(J (U W))=J (U w)+3:=by obtain⟨ZV,K,L,ZW⟩:=nb2 (w:=w) (c:=c) (d:=d) (s:=s) (t:=t) rfl;obtain⟨B,ZR,y⟩:=nb1 h;rw[ZW] at B ZR y;exact⟨Below.trans ZV.i (B.i.P (by omega)),(B.i.p _ (by omega)).k K.i,(B.i.p _ (by omega)).k L.i,ZR,y⟩
def al3 (h:∀j,P j):P 0/\P 1/\P 2:=⟨h 0,h 1,h 2⟩
def al6 (h:∀j,P j):P 0/\P 1/\P 2/\P 3/\P 4/\P 5:=⟨h 0,h 1,h 2,h 3,h 4,h 5⟩
def bl6 (h:∀j,j<6->P j):P 0/\P 1/\P 2/\P 3/\P 4/\P 5:=⟨h 0 (by decide),h 1 (by decide),h 2 (by decide),h 3 (by decide),h 4 (by decide),h 5 (by decide)⟩
structure Ins where
 op:Int
 s:F_
 n:Int
def AtIns (w:E)(b off i:Nat)(x:Ins):Prop:=
 z w (T b (off+i*3) Z)=Q (.int I x.op)/\z w (T b (off+i*3+1) Z)=Q (.string x.s)/\z w (T b (off+i*3+2) Z)=Q (.int I x.n)
def AtIns.aa{B:Nat}{x:Ins}(h:AtIns w b off i x)(hb:Below B w g)(f:b<B):AtIns g b off i x:=
 ⟨(hb.O (p:=(T b _ Z)) f).k h.1,(hb.O (p:=(T b _ Z)) f).k h.2.1,(hb.O (p:=(T b _ Z)) f).k h.2.2⟩
def Q_ (w:E)(b off n:Nat)(f:Nat->Ins):Prop:=b<J (U w)/\∀i,i<n->AtIns w b off i (f i)
def Q_.aa{B:Nat}{f:Nat->Ins}(h:Q_ w b off n f)(hb:Below B w g)(j:J (U w)<=B):Q_ g b off n f:=
 ⟨Nat.lt_of_lt_of_le h.1 hb.size,λi hi=>(h.2 i hi).aa hb (Nat.lt_of_lt_of_le h.1 j)⟩
def Q_.setOther{g:Nat}{f:Nat->Ins}(h:Q_ w g off n f)(p:Addr)(b:p.block≠g)(v:ZB):Q_ (w.setCell p v) g off n f:=by refine⟨by simpa using h.1,λi hi=>?_⟩;have h:=h.2 i hi;have far:∀o,(w.setCell p v).cell? (T g o Z)=z w (T g o Z):=λo=>World.cell?_of_block (w:=w) (a:=(T g o Z)) (Below.heap_setCell w p v g (λe=>b e.c));exact⟨(far _).k h.1,(far _).k h.2.1,(far _).k h.2.2⟩
def SlIns (w:E)(a:O_)(n:Nat)(f:Nat->Ins):Prop:=n=0\/∃b off,a=Q (T b off Z)/\Q_ w b off n f
def SlIns.aa{B:Nat}{f:Nat->Ins}(h:SlIns w a n f)(hb:Below B w g)(i:J (U w)<=B):SlIns g a n f:=by
 rcases h with h|⟨b,off,j,l⟩
 {exact .inl h};{exact .inr ⟨b,off,j,l.aa hb i⟩}
def Q_.sl{f:Nat->Ins}(h:Q_ w b off n f):SlIns w (Q (T b off Z)) n f:=.inr ⟨b,off,rfl,h⟩
def ou:(Pg.info? 102).map (λi=>(i.zero,i.size,i.bytes))=Q (Q (.agg #[.int I 0,.string ⟨#[]⟩,.int I 0]),3,32):=by kernel_rfl
def kind:Int->Int
 |1=>1|3=>2|4=>2|5=>2|10=>3|11=>3|_=>0
def bW (op:Int):Int:=if op=1 then 2000 else 0
def dX (op:Int):Int:=if op=3\/op=4\/op=5 then 2000 else if op=10\/op=11 then 200 else 0
def cL (op:Int)(sz:Nat)(n:Int):Bool:=decide (1<=op/\op<=15/\(sz:Int)<=bW op/\0<=n/\n<=dX op)
def yI (op:Int)(s:F_)(n:Int)(w:E)(f:s.size<=maxLen)(hz:¬ s.toList=[])(h0:0<s.size):Qw Pg 74 #[.agg #[.int I op,.string s,.int I n]] w λe g=>e=ZI (.bool (cL op s.size n))/\Below (J (U w)) w g:=by
 unfold maxLen at f;by_cases h:1<=op/\op<=15
 ·have b:op=1\/op=2\/op=3\/op=4\/op=5\/op=6\/op=7\/op=8\/op=9\/op=10\/op=11\/op=12\/op=13\/op=14\/op=15:=by omega
  clear h;rcases b with rfl|rfl|rfl|rfl|rfl|rfl|rfl|rfl|rfl|rfl|rfl|rfl|rfl|rfl|rfl;all_goals
   go_enter func74,ntmps74;go_wp2;all_goals go_ret
   all_goals refine⟨bv ?_,(Below.refl _ _).alloc (Nat.le_refl _) _⟩
   all_goals (rw[Bool.eq_iff_iff];generalize s.size=ZW at *;simp[cL,bW,dX];try omega)
 ·rcases(show op<1\/15<op by omega) with h|h;all_goals
   go_enter func74,ntmps74;go_wp2;go_ret;refine⟨bv ?_,(Below.refl _ _).alloc (Nat.le_refl _) _⟩;rw[Bool.eq_iff_iff];simp[cL];omega
def yJ (op:Int)(n:Int)(w:E):Qw Pg 74 #[.agg #[.int I op,.string ⟨#[]⟩,.int I n]] w λe f=>e=ZI (.bool (cL op 0 n))/\Below (J (U w)) w f:=by
 by_cases h:1<=op/\op<=15
 ·have b:op=1\/op=2\/op=3\/op=4\/op=5\/op=6\/op=7\/op=8\/op=9\/op=10\/op=11\/op=12\/op=13\/op=14\/op=15:=by omega
  clear h;rcases b with rfl|rfl|rfl|rfl|rfl|rfl|rfl|rfl|rfl|rfl|rfl|rfl|rfl|rfl|rfl;all_goals
   go_enter func74,ntmps74;go_wp2;all_goals go_ret
   all_goals refine⟨bv ?_,(Below.refl _ _).alloc (Nat.le_refl _) _⟩
   all_goals (rw[Bool.eq_iff_iff];simp[cL,bW,dX];try omega)
 ·rcases(show op<1\/15<op by omega) with h|h;all_goals
   go_enter func74,ntmps74;go_wp2;go_ret;refine⟨bv ?_,(Below.refl _ _).alloc (Nat.le_refl _) _⟩;rw[Bool.eq_iff_iff];simp[cL];omega
def wQ (op:Int)(s:F_)(n:Int)(w:E)(b:s.size<=maxLen):Qw Pg 74 #[.agg #[.int I op,.string s,.int I n]] w λe f=>e=ZI (.bool (cL op s.size n))/\Below (J (U w)) w f:=by
 by_cases h:s.size=0;{have e:=mR h;subst e;exact yJ op n w};{exact yI op s n w b (mX h) (by omega)}
def yK (k:Nat)(s:F_)(n mt b:Int)(w:E)(h1:1<=(k:Int))(h2:(k:Int)<=15)
  (hT:z w (T 0 (k*5+1) Z)=Q (.int I mt)) (hN:z w (T 0 (k*5+2) Z)=Q (.int I b)) (hz:0<J (U w))
  (ht:(s.size:Int)<=mt) (hn:0<=n) :
  Qw Pg 129 #[.agg #[.int I k,.string s,.int I n]] w λe f=>e=ZI (.bool (decide (n<=b)))/\Below (J (U w)) w f:=by
 go_enter func129,ntmps129;go_wp2;go_quiet (fail);go_wp2;go_ret;exact⟨rfl,below_drewN ((Below.refl _ _).alloc (Nat.le_refl _) _) _⟩
def yM (k:Nat)(s:F_)(n mt:Int)(w:E)(h1:1<=(k:Int))(h2:(k:Int)<=15)
  (hT:z w (T 0 (k*5+1) Z)=Q (.int I mt)) (hz:0<J (U w))
  (ht:(s.size:Int)<=mt) (hn:n<0) :
  Qw Pg 129 #[.agg #[.int I k,.string s,.int I n]] w λe b=>e=ZI (.bool ZA)/\Below (J (U w)) w b:=by
 have hd:decide (0<=n)=ZA:=by simp;omega
 go_enter func129,ntmps129;go_wp2;go_quiet (fail);go_wp2;go_ret;exact⟨rfl,below_drewN ((Below.refl _ _).alloc (Nat.le_refl _) _) _⟩
def yN (k:Nat)(s:F_)(n mt:Int)(w:E)(h1:1<=(k:Int))(h2:(k:Int)<=15)
  (hT:z w (T 0 (k*5+1) Z)=Q (.int I mt)) (hz:0<J (U w))
  (ht:mt<(s.size:Int)) :
  Qw Pg 129 #[.agg #[.int I k,.string s,.int I n]] w λe b=>e=ZI (.bool ZA)/\Below (J (U w)) w b:=by
 have hd:decide ((s.size:Int)<=mt)=ZA:=by simp;omega
 go_enter func129,ntmps129;go_wp2;go_quiet (fail);go_wp2;go_ret;exact⟨rfl,below_drewN ((Below.refl _ _).alloc (Nat.le_refl _) _) _⟩
def yO (op:Int)(s:F_)(n:Int)(w:E)(h:op<1\/15<op):Qw Pg 129 #[.agg #[.int I op,.string s,.int I n]] w λe b=>e=ZI (.bool ZA)/\Below (J (U w)) w b:=by
 rcases h with h|h;all_goals
  go_enter func129,ntmps129;go_wp2;go_ret;exact⟨rfl,(Below.refl _ _).alloc (Nat.le_refl _) _⟩
def Tab (w:E):Prop:=0<J (U w)/\∀k:Nat,k<16->z w (T 0 (k*5+1) Z)=Q (.int I (bW k))/\z w (T 0 (k*5+2) Z)=Q (.int I (dX k))
def ud (op:Int)(s:F_)(n:Int)(w:E)(b:Tab w):Qw Pg 129 #[.agg #[.int I op,.string s,.int I n]] w λe l=>e=ZI (.bool (cL op s.size n))/\Below (J (U w)) w l:=by
 by_cases h:1<=op/\op<=15;{obtain⟨k,rfl⟩:=Int.eq_ofNat_of_zero_le (show 0<=op by omega);obtain⟨h1,h2⟩:=h;obtain⟨i,j⟩:=b.2 k (by omega);by_cases f:(s.size:Int)<=bW k;{by_cases hn:0<=n;{have e:cL (k:Int) s.size n=decide (n<=dX k):=(by unfold cL;rw[Bool.eq_iff_iff,decide_eq_true_eq,decide_eq_true_eq];exact⟨λh=>h.2.2.2.2,λh=>⟨h1,h2,f,hn,h⟩⟩);rw[e];exact yK k s n _ _ w h1 h2 i j b.1 f hn};{have e:cL (k:Int) s.size n=ZA:=(by unfold cL;rw[decide_eq_false_iff_not];exact λh=>hn h.2.2.2.1);rw[e];exact yM k s n _ w h1 h2 i b.1 f (by omega)}};{have e:cL (k:Int) s.size n=ZA:=(by unfold cL;rw[decide_eq_false_iff_not];exact λh=>f h.2.2.1);rw[e];exact yN k s n _ w h1 h2 i b.1 (by omega)}};{have e:cL op s.size n=ZA:=(by unfold cL;rw[decide_eq_false_iff_not];exact λg=>h ⟨g.1,g.2.1⟩);rw[e];exact yO op s n w (by omega)}
def dn (f:Nat->Ins):Nat->Bool
 |0=>ZH
 |k+1=>dn f k && cL (f k).op (f k).s.size (f k).n
def sf{f:Nat->Ins}{k:Nat}(h:k<=n)(hn:dn f n=ZH):dn f k=ZH:=by
 induction n with
 |zero =>
  obtain rfl:k=0:=by omega
  exact hn
 |succ m b =>
  by_cases e:k=m+1;{subst e;exact hn};{simp only[dn,Bool.and_eq_true] at hn;exact b (by omega) hn.1}
def pS{f:Nat->Ins}{k:Nat}(h:k<n)(b:cL (f k).op (f k).s.size (f k).n=ZA):dn f n=ZA:=by
 cases e:dn f n with
 |false=>rfl
 |true =>have h2:=sf (show k+1<=n by omega) e;simp[dn,b] at h2
def valid (f:Nat->Ins)(n:Nat):Bool:=dn f n && decide (1<=(n:Int)/\(n:Int)<=200)
def bJ{f:Nat->Ins}(h:valid f n=ZH):dn f n=ZH/\1<=(n:Int)/\(n:Int)<=200:=by unfold valid at h;rw[Bool.and_eq_true,decide_eq_true_eq] at h;exact h
def j7{f:Nat->Ins}{k:Nat}(h:dn f n=ZH)(hk:k<n):cL (f k).op (f k).s.size (f k).n=ZH:=by have:=sf (show k+1<=n by omega) h;simp only[dn,Bool.and_eq_true] at this;exact this.2
def gy (b off n j_:Nat)(f:Nat->Ins)(w:E)(hn:n<=1048576)(hb:b<J (U w))(x:∀i,i<n->AtIns w b off i (f i))(ZW:∀i,i<n->(f i).s.size<=maxLen):Qw Pg 43 #[.agg #[Y (Q (T b off Z)) n j_]] w λe u=>e=ZI (.bool (valid f n))/\Below (J (U w)) w u:=by
 have ZV:=ae x;have C:=ae ZW;clear x ZW;go_enter func43,ntmps43;go_wp2;go_loopw [3] (λi wr=>∃k:Nat,k<=n/\i=.int I k/\dn f k=ZH/\Below (J (U w)+1) (w.alloc (N #[Y (Q (T b off Z)) n j_] 37)) wr) (λi _=>n - (intOf i).toNat);case atStart=>exact⟨0,by omega,rfl,rfl,Below.refl _ _⟩
 case round =>
  obtain⟨k,hk,rfl,l,g⟩:=hrel;have B:=ae g;have t:=ae l;have y:z wr (T (J (U w)) 0 Z)=Q (Y (Q (T b off Z)) n j_):=by rw[g.O (p:=(T (J (U w)) 0 Z)) (by simp)];simp
  have j:Hid (Below (J (U w)) w wr):=((Below.refl _ _).alloc (Nat.le_refl _) _).k (g.P (by omega));have r:J (U w)+1<=J (U wr):=by have:=g.size;simpa using this
  clear g l;by_cases h:k<n
  ·obtain⟨c0,c1,c2⟩:=(ZV k h).aa j hb;go_wp2_with fail;refine(wQ _ _ _ _ (C k h)).P ?_;rintro e u⟨rfl,m⟩;have o:=ae m;clear m c0 c1 c2 y;cases hi:cL (f k).op (f k).s.size (f k).n with
   |false =>have q:=ae hi;clear hi;go_wp2;go_ret;refine⟨bv ?_,j.k (o.P j.size)⟩;simp[valid,pS h q.i]
   |true =>have q:=ae hi;clear hi;go_wp2;exact⟨⟨k+1,by omega,by go_num,by simp[dn,t.i,q.i],B.k (o.P r)⟩,by simp[intOf];omega⟩
  ·have e:k=n:=by omega
   subst e;by_cases h1:1<=(k:Int)
   all_goals
    go_wp2;go_ret;refine⟨bv ?_,j⟩;rw[Bool.eq_iff_iff];simp[valid,t.i];try omega
def Tab.aa{f:E}{B:Nat}(h:Tab w)(hb:Below B w f)(b:0<B):Tab f:=
 ⟨Nat.lt_of_lt_of_le h.1 hb.size,λk g=>⟨(hb.O (p:=(T 0 _ Z)) b).k (h.2 k g).1,(hb.O (p:=(T 0 _ Z)) b).k (h.2 k g).2⟩⟩
def mZ (a:O_)(n j_:Nat)(f:Nat->Ins)(w:E)(hn:n<=1048576)(h:(n:Int)<1\/200<(n:Int)):Qw Pg 94 #[.agg #[Y a n j_]] w λe b=>e=ZI (.bool (valid f n))/\Below (J (U w)) w b:=by
 have e:valid f n=ZA:=by unfold valid;rw[show decide (1<=(n:Int)/\(n:Int)<=200)=ZA by simp;omega,Bool.and_false]
 rw[e];clear e;rcases h with h|h;all_goals
  go_enter func94,ntmps94;go_wp2;go_ret;exact⟨rfl,(Below.refl _ _).alloc (Nat.le_refl _) _⟩
def tA (b off n j_:Nat)(f:Nat->Ins)(w:E)(h1:1<=(n:Int))(h2:(n:Int)<=200)(hb:b<J (U w))(x:∀i,i<n->AtIns w b off i (f i))(r:Tab w):Qw Pg 94 #[.agg #[Y (Q (T b off Z)) n j_]] w λe t=>e=ZI (.bool (valid f n))/\Below (J (U w)) w t:=by
 have B:=ae x;have ZV:=ae r;have ZW:=r.1;have y:Hid (valid f n=dn f n):=by show valid f n=dn f n;unfold valid;rw[show decide (1<=(n:Int)/\(n:Int)<=200)=ZH by simp;omega,Bool.and_true]
 clear x r;go_enter func94,ntmps94;go_wp2;go_loopw [18] (λi wr=>∃k:Nat,k<=n/\i=.int I k/\dn f k=ZH/\Below (J (U w)) w wr) (λi _=>n - (intOf i).toNat);case atStart=>exact⟨0,by omega,rfl,rfl,(Below.refl _ _).alloc (Nat.le_refl _) _⟩
 case round =>
  obtain⟨k,hk,rfl,h,p⟩:=hrel;have g:=ae p;have u:=ae h;have j:J (U w)<=J (U wr):=p.size;clear p h;by_cases m:k<n
  ·obtain⟨c0,c1,c2⟩:=(B k m).aa g hb;go_wp2_with fail;refine(ud _ _ _ _ (ZV.aa (g.alloc j _) ZW)).P ?_;rintro e t⟨rfl,l⟩;have o:Hid (Below (J (U w)) w t):=(g.alloc j _).k (l.P (by simp;omega));clear l c0 c1 c2;cases hi:cL (f k).op (f k).s.size (f k).n with
   |false =>have q:=ae hi;clear hi;go_wp2;go_ret;refine⟨bv ?_,o⟩;rw[y.i,pS m q.i]
   |true =>have q:=ae hi;clear hi;go_wp2;exact⟨⟨k+1,by omega,by go_num,by simp[dn,u.i,q.i],o⟩,by simp[intOf];omega⟩
  ·have e:k=n:=by omega
   subst e;go_wp2;go_ret;exact⟨bv (by rw[y.i,u.i]),g.i⟩
def tB (b off n j_:Nat)(f:Nat->Ins)(w:E)(hn:n<=1048576)(hb:b<J (U w))(g:∀i,i<n->AtIns w b off i (f i))(j:Tab w):Qw Pg 94 #[.agg #[Y (Q (T b off Z)) n j_]] w λe l=>e=ZI (.bool (valid f n))/\Below (J (U w)) w l:=by
 by_cases h:(n:Int)<1\/200<(n:Int)
 {exact mZ _ n j_ f w hn h};{exact tA b off n j_ f w (by omega) (by omega) hb g j}
structure zt (b:Nat)(w w':E):Prop where
 os:w'.os=w.os
 tape:w'.tape=w.tape
 output:w'.output=w.output
 size:J (U w)<=J (U w')
 p:∀k,k<J (U w)->k≠b->w'.heap[k]?=w.heap[k]?
 ty:∀cs t fz,w.heap[b]?=Q (N cs t fz)->∃cs',w'.heap[b]?=Q (N cs' t fz)
def zt.refl (b:Nat)(w:E):zt b w w:=⟨rfl,rfl,rfl,Nat.le_refl _,λ_ _ _=>rfl,λf _ _ h=>⟨f,h⟩⟩
def aj{o:Obj}(h:w.heap[i]?=Q o):i<J (U w):=by
 rcases Nat.lt_or_ge i (J (U w)) with b|b;{exact b};{rw[Array.getElem?_eq_none b] at h;cases h}
def cH{f:Array ZB}{fz:Nat × Nat}(h:w.heap[b]?=Q (N f t fz))(v:ZB):(A w (T b j Z) v).heap[b]?=Q (N (f.setIfInBounds j v) t fz):=by simp only[World.setCell,Array.getElem?_modify,if_pos,h,Option.map_some];rfl
def zt.k{v:E}(h:zt b u v)(k:zt b v w):zt b u w:=
 ⟨k.os.k h.os,k.tape.k h.tape,k.output.k h.output,Nat.le_trans h.size k.size,λi hi f=>(k.p i (Nat.lt_of_lt_of_le hi h.size) f).k (h.p i hi f),λg t fz hb=>let ⟨cs1,h1⟩:=h.ty g t fz hb;k.ty cs1 t fz h1⟩
def zt.l{f:E}(h:Below (J (U w)) w f):zt b w f:=⟨h.os,h.tape,h.output,h.size,λi hi _=>h.p i hi,λg _ _ hb=>⟨g,(h.p b (aj hb)).k hb⟩⟩
def zt.drew (h:zt b u w):zt b u w.drew:=h.k (zt.l (Below.refl _ _).drew)
def zt.al (h:zt b u w)(o:Obj):zt b u (w.alloc o):=h.k (zt.l ((Below.refl _ _).alloc (Nat.le_refl _) _))
def zt.aa{B:Nat}{f:E}(h:zt b w f)(hB:B<=b)(hw:B<=J (U w)):Below B w f:=⟨h.os,h.tape,h.output,h.size,λk hk=>h.p k (by omega) (by omega)⟩
def zt.O{f:E}(h:zt b w f)(k o:Nat)(g:k<J (U w))(hb:k≠b):z f (T k o Z)=z w (T k o Z):=World.cell?_of_block (w:=w) (a:=(T k o Z)) (h.p k g hb)
def ce{a:E}(h:zt b a w)(j:Nat)(v:ZB):zt b a (A w (T b j Z) v):=
 h.k ⟨rfl,rfl,rfl,by simp[World.setCell],λk _ f=>Below.heap_setCell _ _ _ _ (by simpa using f),λ_ _ _ hb=>⟨_,cH hb v⟩⟩
def nd{P:Program}{a:Act}(b:fn.results=#[])(f:a.defers=[])(hR:R (ZI (.tuple #[])) w):bodyPost P fn R .normal a w:=
 bodyPost_end (v:=.tuple #[]) (by simp[results,b]) f hR
def re{P:Program}{a:Act}(b:fn.results=#[])(f:a.defers=[])(hR:R (ZI (.tuple #[])) w):bodyPost P fn R .ret a w:=
 bodyPost_ret (v:=.tuple #[]) (by simp[results,b]) f hR
def Cs (w:E)(b n:Nat)(F:Nat->ZB):Prop:=b<J (U w)/\∀j,j<n->z w (T b j Z)=Q (F j)/\ZU w (T b j Z)=ZA
def Cs.aa{i:E}{B:Nat}{F:Nat->ZB}(h:Cs w b n F)(hb:Below B w i)(g:b<B):Cs i b n F:=
 ⟨Nat.lt_of_lt_of_le h.1 hb.size,λj f=>⟨(hb.O (p:=(T b _ Z)) g).k (h.2 j f).1,(hb.frozen (p:=(T b _ Z)) g).k (h.2 j f).2⟩⟩
def Cs.set{F G:Nat->ZB}(h:Cs w b n F)(j:Nat)(v:ZB)(i:∀x,x<n->G x=if x=j then v else F x):Cs (A w (T b j Z) v) b n G:=by
 refine⟨by simpa using h.1,λx f=>⟨?_,?_⟩⟩;{rw[i x f];by_cases e:x=j;{subst e;exact(World.cell?_setCell_same' _ _ _ (by rw[(h.2 x f).1];rfl)).k (by simp)};{have g:((T b j Z):Addr)≠(T b x Z):=(by intro q;exact e (by simpa using q.c));exact(World.cell?_setCell_other _ _ _ _ g).k ((h.2 x f).1.k (by simp[e]))}};{have:=(h.2 x f).2;simpa using this}
structure Turn where
 K:Bool
 M:Int
 H:F_
 ask:Bool
 e:F_
 j:Int
def Turn.v (t:Turn):ZB:=.agg #[.bool t.K,.int I t.M,.string t.H,.bool t.ask,.string t.e,.int I t.j]
def dk:Turn:=⟨ZA,0,⟨#[]⟩,ZA,⟨#[]⟩,0⟩
structure Mst where
 S:B_
 size:Nat
 av:Int
 j:Int
 D:Int
 t:Turn
def Mst.F (b:ZB)(m:Mst)(j:Nat):ZB:=
 if j<50 then .string (m.S j) else if j=50 then .int I m.size else if j=51 then b else if j=52 then .int I m.av else if j=53 then .int I m.j else if j=54 then .int I m.D
 else if j=55 then .bool m.t.K else if j=56 then .int I m.t.M else if j=57 then .string m.t.H else if j=58 then .bool m.t.ask else if j=59 then .string m.t.e else if j=60 then .int I m.t.j else .int I 0
def MAt (w:E)(b:Nat)(f:ZB)(m:Mst):Prop:=Cs w b 61 (m.F f)
def MAt.aa{B:Nat}{m:Mst}(h:MAt w b f m)(hb:Below B w g)(i:b<B):MAt g b f m:=Cs.aa h hb i
def MAt.lt{m:Mst}(h:MAt w b f m):b<J (U w):=h.1
def MAt.txt{g:ZB}{m:Mst}(h:MAt w b g m)(j:Nat)(f:j<50):z w (T b j Z)=Q (.string (m.S j))/\ZU w (T b j Z)=ZA:=
 ⟨(h.2 j (by omega)).1.k (by simp[Mst.F,f]),(h.2 j (by omega)).2⟩
def MAt.ao{g:ZB}{m:Mst}(h:MAt w b g m)(j:Nat)(v:ZB)(f:j<61)(i:m.F g j=v):z w (T b j Z)=Q v/\ZU w (T b j Z)=ZA:=
 ⟨(h.2 j f).1.k (by rw[i]),(h.2 j f).2⟩
def upd (S:B_)(k:Nat)(t:F_)(j:Nat):F_:=if j=k then t else S j
def MAt.setTxt{m:Mst}(h:MAt w b f m)(k:Nat)(g:k<50)(t:F_):MAt (A w (T b k Z) (.string t)) b f { m with S:=upd m.S k t }:=
 Cs.set h k _ (λx _=>by
  by_cases e:x=k
  ·subst e;simp[Mst.F,g,upd]
  ·simp[Mst.F,upd,e])
def MAt.setSize{m:Mst}(h:MAt w b f m)(k:Nat)(ZW:Int)(hz:ZW=k):MAt (A w (T b 50 Z) (.int I ZW)) b f { m with size:=k }:=by
 subst hz
 exact Cs.set h 50 _ (λx _=>by
  by_cases e:x=50;{subst e;simp[Mst.F]}
  ·simp[Mst.F,e])
def MAt.setPlace{m:Mst}(h:MAt w b f m)(k:Int):MAt (A w (T b 52 Z) (.int I k)) b f { m with av:=k }:=
 Cs.set h 52 _ (λx _=>by
  by_cases e:x=52
  ·subst e;simp[Mst.F]
  ·simp[Mst.F,e])
def MAt.setSteps{m:Mst}(h:MAt w b f m)(k:Int):MAt (A w (T b 53 Z) (.int I k)) b f { m with j:=k }:=
 Cs.set h 53 _ (λx _=>by
  by_cases e:x=53
  ·subst e;simp[Mst.F]
  ·simp[Mst.F,e])
def MAt.setLooks{m:Mst}(h:MAt w b f m)(k:Int):MAt (A w (T b 54 Z) (.int I k)) b f { m with D:=k }:=
 Cs.set h 54 _ (λx _=>by
  by_cases e:x=54
  ·subst e;simp[Mst.F]
  ·simp[Mst.F,e])
def MAt.set55{m:Mst}(h:MAt w b f m)(x:Bool):MAt (A w (T b 55 Z) (.bool x)) b f { m with t:={ m.t with K:=x } }:=
 Cs.set h 55 _ (λy hy=>by
  by_cases e:y=55
  ·subst e;simp[Mst.F]
  ·simp only[Mst.F,e,if_false])
def MAt.set56{m:Mst}(h:MAt w b f m)(x:Int):MAt (A w (T b 56 Z) (.int I x)) b f { m with t:={ m.t with M:=x } }:=
 Cs.set h 56 _ (λy hy=>by
  by_cases e:y=56
  ·subst e;simp[Mst.F]
  ·simp only[Mst.F,e,if_false])
def MAt.set57{m:Mst}(h:MAt w b f m)(x:F_):MAt (A w (T b 57 Z) (.string x)) b f { m with t:={ m.t with H:=x } }:=
 Cs.set h 57 _ (λy hy=>by
  by_cases e:y=57
  ·subst e;simp[Mst.F]
  ·simp only[Mst.F,e,if_false])
def MAt.set58{m:Mst}(h:MAt w b f m)(x:Bool):MAt (A w (T b 58 Z) (.bool x)) b f { m with t:={ m.t with ask:=x } }:=
 Cs.set h 58 _ (λy hy=>by
  by_cases e:y=58
  ·subst e;simp[Mst.F]
  ·simp only[Mst.F,e,if_false])
def MAt.set59{m:Mst}(h:MAt w b f m)(x:F_):MAt (A w (T b 59 Z) (.string x)) b f { m with t:={ m.t with e:=x } }:=
 Cs.set h 59 _ (λy hy=>by
  by_cases e:y=59
  ·subst e;simp[Mst.F]
  ·simp only[Mst.F,e,if_false])
def MAt.set60{m:Mst}(h:MAt w b f m)(x:Int):MAt (A w (T b 60 Z) (.int I x)) b f { m with t:={ m.t with j:=x } }:=
 Cs.set h 60 _ (λy hy=>by
  by_cases e:y=60
  ·subst e;simp[Mst.F]
  ·simp only[Mst.F,e,if_false])
def MAt.setTurn{m:Mst}(h:MAt w b f m)(t:Turn):MAt (A (A (A (A (A (A w (T b 55 Z) (.bool t.K)) (T b 56 Z) (.int I t.M)) (T b 57 Z) (.string t.H)) (T b 58 Z) (.bool t.ask)) (T b 59 Z) (.string t.e)) (T b 60 Z) (.int I t.j)) b f { m with t:=t }:=
 (((((h.set55 t.K).set56 t.M).set57 t.H).set58 t.ask).set59 t.e).set60 t.j
def MAt.turn{m:Mst}(h:MAt w b f m):(z w (T b 55 Z)=Q (.bool m.t.K)/\ZU w (T b 55 Z)=ZA)/\(z w (T b 56 Z)=Q (.int I m.t.M)/\ZU w (T b 56 Z)=ZA)/\(z w (T b 57 Z)=Q (.string m.t.H)/\ZU w (T b 57 Z)=ZA)/\(z w (T b 58 Z)=Q (.bool m.t.ask)/\ZU w (T b 58 Z)=ZA)/\(z w (T b 59 Z)=Q (.string m.t.e)/\ZU w (T b 59 Z)=ZA)/\(z w (T b 60 Z)=Q (.int I m.t.j)/\ZU w (T b 60 Z)=ZA):=
 ⟨h.ao 55 _ (by omega) (by simp[Mst.F]),h.ao 56 _ (by omega) (by simp[Mst.F]),h.ao 57 _ (by omega) (by simp[Mst.F]),h.ao 58 _ (by omega) (by simp[Mst.F]),h.ao 59 _ (by omega) (by simp[Mst.F]),h.ao 60 _ (by omega) (by simp[Mst.F])⟩
def GC{a:E}(h:zt b a w)(t:Turn):zt b a (A (A (A (A (A (A w (T b 55 Z) (.bool t.K)) (T b 56 Z) (.int I t.M)) (T b 57 Z) (.string t.H)) (T b 58 Z) (.bool t.ask)) (T b 59 Z) (.string t.e)) (T b 60 Z) (.int I t.j)):=
 ce (ce (ce (ce (ce (ce h _ _) _ _) _ _) _ _) _ _) _ _
def rh (b:Nat)(g:ZB)(m:Mst)(t:F_)(w:E)(hM:MAt w b g m)(h:m.size<50):Qw Pg 182 #[.pointer (Q (T b 0 Z)),.string t] w λe i=>e=ZI (.tuple #[])/\MAt i b g { m with S:=upd m.S m.size t,size:=m.size+1 }/\zt b w i:=by have j:=ae hM;obtain⟨c0,z0⟩:=hM.ao 50 (.int I m.size) (by omega) (by simp[Mst.F]);obtain⟨c1,z1⟩:=hM.txt m.size h;clear hM;go_enter func182,ntmps182;go_wp2;go_region_with fail;have f:=ae ((j.setTxt m.size h t).aa (Below.refl _ _).drew (Nat.lt_succ_self _));clear c0 z0 c1 z1;obtain⟨c0,z0⟩:=f.ao 50 (.int I m.size) (by omega) (by simp[Mst.F]);go_wp2;refine nd rfl rfl ?_;exact⟨rfl,f.setSize (m.size+1) _ (by simp),ce (ce (zt.refl _ _) _ _).drew _ _⟩
def lG (b:Nat)(g:ZB)(m:Mst)(k:Nat)(w:E)(hM:MAt w b g m)(l:m.size=k+1)(j:k<50):Qw Pg 200 #[.pointer (Q (T b 0 Z))] w λe h=>e=ZI (.string (m.S k))/\MAt h b g { m with size:=k }/\zt b w h:=by have i:=ae hM;obtain⟨c0,z0⟩:=hM.ao 50 (.int I (k+1)) (by omega) (by simp[Mst.F,l]);clear hM;go_enter func200,ntmps200;go_wp2_with fail;have f:=ae (i.setSize k k rfl);obtain⟨c1,z1⟩:=f.txt k j;obtain⟨c2,z2⟩:=f.ao 50 (.int I k) (by omega) (by simp[Mst.F]);clear c0 z0;go_region_with fail;go_wp2;go_ret;exact⟨rfl,f.aa (Below.refl _ _).drew (Nat.lt_succ_self _),(ce (zt.refl _ _) _ _).drew⟩
def kQ (b:Nat)(f:ZB)(m:Mst)(c:Int)(t:F_)(w:E)(hM:MAt w b f m):Qw Pg 184 #[.pointer (Q (T b 0 Z)),.int I c,.string t] w λe g=>e=ZI (.tuple #[])/\MAt g b f { m with t:=⟨ZH,c,t,ZA,⟨#[]⟩,m.j⟩ }/\zt b w g:=by have h:=ae hM;obtain⟨c0,z0⟩:=hM.ao 53 (.int I m.j) (by omega) (by simp[Mst.F]);obtain⟨c5,z5⟩:=hM.ao 55 (.bool m.t.K) (by omega) (by simp[Mst.F]);obtain⟨c6,z6⟩:=hM.ao 56 (.int I m.t.M) (by omega) (by simp[Mst.F]);obtain⟨c7,z7⟩:=hM.ao 57 (.string m.t.H) (by omega) (by simp[Mst.F]);obtain⟨c8,z8⟩:=hM.ao 58 (.bool m.t.ask) (by omega) (by simp[Mst.F]);obtain⟨c9,z9⟩:=hM.ao 59 (.string m.t.e) (by omega) (by simp[Mst.F]);obtain⟨c10,z10⟩:=hM.ao 60 (.int I m.t.j) (by omega) (by simp[Mst.F]);clear hM;go_enter func184,ntmps184;go_wp2;refine nd rfl rfl ?_;exact⟨rfl,h.setTurn ⟨ZH,c,t,ZA,⟨#[]⟩,m.j⟩,ce (ce (ce (ce (ce (ce (zt.refl _ _) _ _) _ _) _ _) _ _) _ _) _ _⟩
def aX (k:Nat):Nat:=if k=2\/k=6\/k=8 then 2 else if k=0\/k=1\/k=10\/15<k then 0 else 1
def bN (k:Nat):Nat:=if k=7\/k=8 then 2 else if k=0\/k=9\/k=10\/k=11\/13<k then 0 else 1
def Tab2 (w:E):Prop:=0<J (U w)/\∀k:Nat,k<16->z w (T 0 (k*5+3) Z)=Q (.int I (aX k))/\z w (T 0 (k*5+4) Z)=Q (.int I (bN k))
def Tab2.aa{f:E}{B:Nat}(h:Tab2 w)(hb:Below B w f)(b:0<B):Tab2 f:=
 ⟨Nat.lt_of_lt_of_le h.1 hb.size,λk g=>⟨(hb.O (p:=(T 0 _ Z)) b).k (h.2 k g).1,(hb.O (p:=(T 0 _ Z)) b).k (h.2 k g).2⟩⟩
def bears_any (b:Nat)(g:ZB)(m:Mst)(k:Nat)(w:E)(hM:MAt w b g m)(f:Tab2 w)(h1:1<=(k:Int))(h2:(k:Int)<=15)(hs:m.size<=50):Qw Pg 194 #[.pointer (Q (T b 0 Z)),.int I k] w λe h=>e=ZI (.bool (decide (aX k<=m.size/\m.size - aX k+bN k<=50)))/\Below (J (U w)) w h:=by
 have hT0:=f.1;obtain⟨c0,z0⟩:=hM.ao 50 (.int I m.size) (by omega) (by simp[Mst.F]);obtain⟨t0,t1⟩:=f.2 k (by omega);have k1:aX k<=2:=by unfold aX;split<;>(try split)<;>omega
 have k2:bN k<=2:=by unfold bN;split<;>(try split)<;>omega
 clear hM f;generalize aX k=x at *;generalize bN k=y at *;by_cases hx:x<=m.size;{go_enter func194,ntmps194;go_wp2_with fail;go_quiet (fail);go_wp2;go_ret;refine⟨bv ?_,below_drewN (Below.refl _ _) _⟩;rw[Bool.eq_iff_iff];simp;omega};{go_enter func194,ntmps194;go_wp2_with fail;go_quiet (fail);go_wp2_with fail;go_ret;refine⟨bv ?_,below_drewN (Below.refl _ _) _⟩;rw[Bool.eq_iff_iff];simp;omega}
def dM (s:F_):Nat->Bool
 |0=>ZH
 |k+1=>dM s k && (match s.data[k]? with|some c=>decide (33<=c.toNat/\c.toNat<=126)|none=>ZA)
def aA (s:F_):Bool:=decide (1<=s.size/\s.size<=60) && dM s s.size
def wR{k:Nat}(h:k<=n)(hn:dM s n=ZH):dM s k=ZH:=by
 induction n with
 |zero =>
  obtain rfl:k=0:=by omega
  exact hn
 |succ m b =>
  by_cases e:k=m+1;{subst e;exact hn};{simp only[dM,Bool.and_eq_true] at hn;exact b (by omega) hn.1}
def kC{k:Nat}(h:k<s.size):dM s (k+1)=(dM s k && decide (33<=s[k].toNat/\s[k].toNat<=126)):=by
 have e:s.data[k]?=Q s[k]:=by rw[Array.getElem?_eq_getElem h];rfl
 rw[dM,e]
def gV{k:Nat}(h:k<s.size)(hk:¬ (33<=s[k].toNat/\s[k].toNat<=126)):dM s s.size=ZA:=by
 cases e:dM s s.size with
 |false=>rfl
 |true =>have h2:=wR (show k+1<=s.size by omega) e;rw[kC h] at h2;simp at h2;omega
def ue (s:F_)(w:E)(F:Nat)(hF:(True/\F=113)\/F=41):Qw Pg F #[.string s] w λe n=>e=ZI (.bool (aA s))/\Below (J (U w)) w n:=by
 by_cases h1:1<=(s.size:Int)/\(s.size:Int)<=60
 ·have j:Hid (aA s=dM s s.size):=by
   show aA s=dM s s.size;unfold aA;rw[show decide (1<=s.size/\s.size<=60)=ZH by simp;omega,Bool.true_and]
  obtain⟨h1,h2⟩:=h1;rcases hF with⟨M,rfl⟩|rfl;all_goals
   first|(guard_hyp M;go_enter func113,ntmps113)|go_enter func41,ntmps41
   go_wp2;first|(guard_hyp M;go_loopw [14] (λi wr=>∃k:Nat,k<=s.size/\i=.int I k/\dM s k=ZH/\Below (J (U w)) w wr) (λi _=>s.size - (intOf i).toNat))|go_loopw [3] (λi wr=>∃k:Nat,k<=s.size/\i=.int I k/\dM s k=ZH/\Below (J (U w)) w wr) (λi _=>s.size - (intOf i).toNat)
   case atStart=>exact⟨0,by omega,rfl,rfl,Below.refl _ _⟩
   case round =>
    obtain⟨k,hk,rfl,g,l⟩:=hrel;have f:=ae l;have m:=ae g;clear l g;by_cases b:k<s.size
    ·by_cases p1:33<=(s[k].toNat:Int)
     ·by_cases p2:(s[k].toNat:Int)<=126
      ·go_wp2
       exact⟨⟨k+1,by omega,by go_num,by rw[kC b,m.i];simp;omega,f⟩,by simp[intOf];omega⟩
      ·go_wp2
       go_ret;exact⟨bv (by rw[j.i,gV b (by omega)]),f⟩
     ·go_wp2
      go_ret;exact⟨bv (by rw[j.i,gV b (by omega)]),f⟩
    ·have e:k=s.size:=by omega
     subst e;go_wp2;go_ret;exact⟨bv (by rw[j.i,m.i]),f.i⟩
 ·rw[show aA s=ZA by unfold aA;rw[show decide (1<=s.size/\s.size<=60)=ZA by simp;omega,Bool.false_and]];by_cases h2:1<=(s.size:Int)
  ·have h3:¬ (s.size:Int)<=60:=λh=>h1 ⟨h2,h⟩;clear h1;rcases hF with⟨M,rfl⟩|rfl;all_goals
    first|(guard_hyp M;go_enter func113,ntmps113)|go_enter func41,ntmps41
    go_wp2;go_ret;exact⟨rfl,Below.refl _ _⟩
  ·clear h1;rcases hF with⟨M,rfl⟩|rfl;all_goals
    first|(guard_hyp M;go_enter func113,ntmps113)|go_enter func41,ntmps41
    go_wp2;go_ret;exact⟨rfl,Below.refl _ _⟩
abbrev fu (s:F_)(w:E):=ue s w _ (.inl ⟨trivial,rfl⟩)
abbrev dl (s:F_)(w:E):=ue s w _ (.inr rfl)
structure aD where
 has:Bool
 M:Int
 H:F_
def AtReply (w:E)(b off i:Nat)(x:aD):Prop:=
 z w (T b (off+i*3) Z)=Q (.bool x.has)/\z w (T b (off+i*3+1) Z)=Q (.int I x.M)/\z w (T b (off+i*3+2) Z)=Q (.string x.H)
def AtReply.aa{B:Nat}{x:aD}(h:AtReply w b off i x)(hb:Below B w g)(f:b<B):AtReply g b off i x:=
 ⟨(hb.O (p:=(T b _ Z)) f).k h.1,(hb.O (p:=(T b _ Z)) f).k h.2.1,(hb.O (p:=(T b _ Z)) f).k h.2.2⟩
def RowReply (w:E)(b off n:Nat)(f:Nat->aD):Prop:=b<J (U w)/\∀i,i<n->AtReply w b off i (f i)
def RowReply.aa{B:Nat}{f:Nat->aD}(h:RowReply w b off n f)(hb:Below B w g)(j:J (U w)<=B):RowReply g b off n f:=
 ⟨Nat.lt_of_lt_of_le h.1 hb.size,λi hi=>(h.2 i hi).aa hb (Nat.lt_of_lt_of_le h.1 j)⟩
structure Source where
 e:F_
 H:F_
def AtSource (w:E)(b off i:Nat)(x:Source):Prop:=
 z w (T b (off+i*2) Z)=Q (.string x.e)/\z w (T b (off+i*2+1) Z)=Q (.string x.H)
def AtSource.aa{B:Nat}{x:Source}(h:AtSource w b off i x)(hb:Below B w g)(f:b<B):AtSource g b off i x:=
 ⟨(hb.O (p:=(T b _ Z)) f).k h.1,(hb.O (p:=(T b _ Z)) f).k h.2⟩
def RowSource (w:E)(b off n:Nat)(f:Nat->Source):Prop:=b<J (U w)/\∀i,i<n->AtSource w b off i (f i)
def RowSource.aa{B:Nat}{f:Nat->Source}(h:RowSource w b off n f)(hb:Below B w g)(j:J (U w)<=B):RowSource g b off n f:=
 ⟨Nat.lt_of_lt_of_le h.1 hb.size,λi hi=>(h.2 i hi).aa hb (Nat.lt_of_lt_of_le h.1 j)⟩
def Qx (w:E)(a:O_)(n:Nat)(f:Nat->Source):Prop:=n=0\/∃b off,a=Q (T b off Z)/\RowSource w b off n f
def Qx.aa{B:Nat}{f:Nat->Source}(h:Qx w a n f)(hb:Below B w g)(i:J (U w)<=B):Qx g a n f:=by
 rcases h with h|⟨b,off,j,l⟩
 {exact .inl h};{exact .inr ⟨b,off,j,l.aa hb i⟩}
def jn:(Pg.info? 82).map (λi=>(i.zero,i.size,i.bytes))=Q (Q (.agg #[.string ⟨#[]⟩,.string ⟨#[]⟩]),2,32):=by kernel_rfl
structure Target where
 e:F_
 h:Nat
 q:Nat->Ins
def aP (x:Target):Prop:=x.h<=1048576
def AtTarget (w:E)(b off i:Nat)(x:Target):Prop:=
 z w (T b (off+i*2) Z)=Q (.string x.e)/\(∃a j_,z w (T b (off+i*2+1) Z)=Q (Y a x.h j_)/\SlIns w a x.h x.q)
def AtTarget.aa{l:E}{B:Nat}{x:Target}(h:AtTarget w b off i x)(hb:Below B w l)(g:J (U w)<=B)(j:b<J (U w)):AtTarget l b off i x:=by obtain⟨m,⟨a0,f,s0,r0⟩⟩:=h;refine⟨(hb.O (p:=(T b _ Z)) (Nat.lt_of_lt_of_le j g)).k m,⟨a0,f,(hb.O (p:=(T b _ Z)) (Nat.lt_of_lt_of_le j g)).k s0,r0.aa hb g⟩⟩
def RowTarget (w:E)(b off n:Nat)(f:Nat->Target):Prop:=b<J (U w)/\∀i,i<n->AtTarget w b off i (f i)
def RowTarget.aa{B:Nat}{f:Nat->Target}(h:RowTarget w b off n f)(hb:Below B w g)(j:J (U w)<=B):RowTarget g b off n f:=
 ⟨Nat.lt_of_lt_of_le h.1 hb.size,λi hi=>(h.2 i hi).aa hb j h.1⟩
def Qq (w:E)(a:O_)(n:Nat)(f:Nat->Target):Prop:=n=0\/∃b off,a=Q (T b off Z)/\RowTarget w b off n f
def Qq.aa{B:Nat}{f:Nat->Target}(h:Qq w a n f)(hb:Below B w g)(i:J (U w)<=B):Qq g a n f:=by
 rcases h with h|⟨b,off,j,l⟩
 {exact .inl h};{exact .inr ⟨b,off,j,l.aa hb i⟩}
def fw:(Pg.info? 86).map (λi=>(i.zero,i.size,i.bytes))=Q (Q (.agg #[.string ⟨#[]⟩,Y Z 0 0]),2,40):=by kernel_rfl
def RowStr (w:E)(b off n:Nat)(f:B_):Prop:=b<J (U w)/\∀i,i<n->z w (T b (off+i) Z)=Q (.string (f i))
def RowStr.aa{B:Nat}{f:B_}(h:RowStr w b off n f)(hb:Below B w g)(j:J (U w)<=B):RowStr g b off n f:=
 ⟨Nat.lt_of_lt_of_le h.1 hb.size,λi hi=>(hb.O (p:=(T b _ Z)) (Nat.lt_of_lt_of_le h.1 j)).k (h.2 i hi)⟩
def SlStr (w:E)(a:O_)(n:Nat)(f:B_):Prop:=n=0\/∃b off,a=Q (T b off Z)/\RowStr w b off n f
def SlStr.aa{B:Nat}{f:B_}(h:SlStr w a n f)(hb:Below B w g)(i:J (U w)<=B):SlStr g a n f:=by
 rcases h with h|⟨b,off,j,l⟩
 {exact .inl h};{exact .inr ⟨b,off,j,l.aa hb i⟩}
def gX:(Pg.info? 9).map (λi=>(i.zero,i.size,i.bytes))=Q (Q (.string ⟨#[]⟩),1,16):=by kernel_rfl
def yP (f:Nat->Ins):valid f 0=ZA:=by simp[valid]
def nf (a:O_)(n j_:Nat)(f:Nat->Ins)(w:E)(hn:n<=1048576)(h:SlIns w a n f)(i:Tab w):Qw Pg 94 #[.agg #[Y a n j_]] w λe j=>e=ZI (.bool (valid f n))/\Below (J (U w)) w j:=by
 rcases h with rfl|⟨b,off,rfl,g⟩
 {exact mZ a 0 j_ f w (by omega) (by simp)};{exact tB b off n j_ f w hn g.1 g.2 i}
def tC (a:O_)(j_:Nat)(f:Nat->Ins)(w:E):Qw Pg 43 #[.agg #[Y a 0 j_]] w λe b=>e=ZI (.bool (valid f 0))/\Below (J (U w)) w b:=by
 rw[yP];have g:=ae ((Below.refl (J (U w)) w).alloc (Nat.le_refl _) (N #[Y a 0 j_] 37));go_enter func43,ntmps43;go_wp2;go_loop [3] (λi=>i=.int I 0) (λ_=>0);case atStart=>rfl
 case round =>subst hrel;go_wp2;go_ret;exact⟨rfl,g⟩
def jD (a:O_)(n j_:Nat)(f:Nat->Ins)(w:E)(hn:n<=1048576)(h:SlIns w a n f)(j:∀i,i<n->(f i).s.size<=maxLen):Qw Pg 43 #[.agg #[Y a n j_]] w λe l=>e=ZI (.bool (valid f n))/\Below (J (U w)) w l:=by
 rcases h with rfl|⟨b,off,rfl,g⟩
 {exact tC a j_ f w};{exact gy b off n j_ f w hn g.1 g.2 j}
structure Link where
 e:F_
 ask:Bool
 has:Bool
 G:Int
def AtLink (w:E)(b off i:Nat)(x:Link):Prop:=
 z w (T b (off+i*4) Z)=Q (.string x.e)/\z w (T b (off+i*4+1) Z)=Q (.bool x.ask)/\z w (T b (off+i*4+2) Z)=Q (.bool x.has)/\z w (T b (off+i*4+3) Z)=Q (.int I x.G)
def AtLink.aa{B:Nat}{x:Link}(h:AtLink w b off i x)(hb:Below B w g)(f:b<B):AtLink g b off i x:=
 ⟨(hb.O (p:=(T b _ Z)) f).k h.1,(hb.O (p:=(T b _ Z)) f).k h.2.1,(hb.O (p:=(T b _ Z)) f).k h.2.2.1,(hb.O (p:=(T b _ Z)) f).k h.2.2.2⟩
def RowLink (w:E)(b off n:Nat)(f:Nat->Link):Prop:=b<J (U w)/\∀i,i<n->AtLink w b off i (f i)
def RowLink.aa{B:Nat}{f:Nat->Link}(h:RowLink w b off n f)(hb:Below B w g)(j:J (U w)<=B):RowLink g b off n f:=
 ⟨Nat.lt_of_lt_of_le h.1 hb.size,λi hi=>(h.2 i hi).aa hb (Nat.lt_of_lt_of_le h.1 j)⟩
def SlLink (w:E)(a:O_)(n:Nat)(f:Nat->Link):Prop:=n=0\/∃b off,a=Q (T b off Z)/\RowLink w b off n f
def SlLink.aa{B:Nat}{f:Nat->Link}(h:SlLink w a n f)(hb:Below B w g)(i:J (U w)<=B):SlLink g a n f:=by
 rcases h with h|⟨b,off,j,l⟩
 {exact .inl h};{exact .inr ⟨b,off,j,l.aa hb i⟩}
def lH:(Pg.info? 65).map (λi=>(i.zero,i.size,i.bytes))=Q (Q (.agg #[.string ⟨#[]⟩,.bool ZA,.bool ZA,.int I 0]),4,32):=by kernel_rfl
structure au where
 e:F_
 L:Int
 M:Int
 H:F_
 h:Nat
 q:Nat->Ins
 f:Nat
 m:Nat->Link
def fo (x:au):Prop:=x.e.size<=maxLen/\x.H.size<=maxLen/\((x.h:Int)<=9223372036854775807/\∀j,j<x.h->(x.q j).s.size<=maxLen)/\((x.f:Int)<=9223372036854775807/\∀j,j<x.f->(x.m j).e.size<=maxLen)
def cX (x:au):Prop:=x.h<=1048576/\x.f<=1048576
def AtDeed (w:E)(b off i:Nat)(x:au):Prop:=
 z w (T b (off+i*6) Z)=Q (.string x.e)/\z w (T b (off+i*6+1) Z)=Q (.int I x.L)/\z w (T b (off+i*6+2) Z)=Q (.int I x.M)/\z w (T b (off+i*6+3) Z)=Q (.string x.H)/\(∃a j_,z w (T b (off+i*6+4) Z)=Q (Y a x.h j_)/\SlIns w a x.h x.q)/\(∃a j_,z w (T b (off+i*6+5) Z)=Q (Y a x.f j_)/\SlLink w a x.f x.m)
def AtDeed.aa{m:E}{B:Nat}{x:au}(h:AtDeed w b off i x)(hb:Below B w m)(f:J (U w)<=B)(g:b<J (U w)):AtDeed m b off i x:=by obtain⟨o,r,n,q,⟨a0,l,s0,r0⟩,⟨a1,j,s1,r1⟩⟩:=h;refine⟨(hb.O (p:=(T b _ Z)) (Nat.lt_of_lt_of_le g f)).k o,(hb.O (p:=(T b _ Z)) (Nat.lt_of_lt_of_le g f)).k r,(hb.O (p:=(T b _ Z)) (Nat.lt_of_lt_of_le g f)).k n,(hb.O (p:=(T b _ Z)) (Nat.lt_of_lt_of_le g f)).k q,⟨a0,l,(hb.O (p:=(T b _ Z)) (Nat.lt_of_lt_of_le g f)).k s0,r0.aa hb f⟩,⟨a1,j,(hb.O (p:=(T b _ Z)) (Nat.lt_of_lt_of_le g f)).k s1,r1.aa hb f⟩⟩
def Qk (w:E)(b off n:Nat)(f:Nat->au):Prop:=b<J (U w)/\∀i,i<n->AtDeed w b off i (f i)
def Qk.aa{B:Nat}{f:Nat->au}(h:Qk w b off n f)(hb:Below B w g)(j:J (U w)<=B):Qk g b off n f:=
 ⟨Nat.lt_of_lt_of_le h.1 hb.size,λi hi=>(h.2 i hi).aa hb j h.1⟩
def SlDeed (w:E)(a:O_)(n:Nat)(f:Nat->au):Prop:=n=0\/∃b off,a=Q (T b off Z)/\Qk w b off n f
def SlDeed.aa{B:Nat}{f:Nat->au}(h:SlDeed w a n f)(hb:Below B w g)(i:J (U w)<=B):SlDeed g a n f:=by
 rcases h with h|⟨b,off,j,l⟩
 {exact .inl h};{exact .inr ⟨b,off,j,l.aa hb i⟩}
def gC:(Pg.info? 62).map (λi=>(i.zero,i.size,i.bytes))=Q (Q (.agg #[.string ⟨#[]⟩,.int I 0,.int I 0,.string ⟨#[]⟩,Y Z 0 0,Y Z 0 0]),6,96):=by kernel_rfl
def dA (n:Nat):Array ZB:=madeCells (Value.agg #[.string ⟨#[]⟩,.int I 0,.int I 0,.string ⟨#[]⟩,Y Z 0 0,Y Z 0 0]).cells (n*6)
def Iy (n:Nat)(hn:n<=1048576)(w:E):(Instr.makeSlice 23 (.int I (n:Int)) (.int I (n:Int))).run Pg w=.ok (Y (Q (T (J (U w)) 0 Z)) n n) (w.alloc (N (dA n) 62)):=by obtain⟨i,hi,hz⟩:=Option.map_eq_some_iff.1 gC;simp only[Prod.mk.injEq] at hz;obtain⟨h1,h2,b⟩:=hz;have h:=run_make (P:=Pg) w 23 62 i _ underlying23 hi h1 I I n n (by omega) (Int.le_refl _) (by rw[b];omega) (by omega);rw[h2] at h;simpa[dA] using h
def dW (f:Nat->au)(p:Nat)(l:Link):Bool:=
 aA l.e && (if l.ask=ZH then !l.has && decide (0<=l.G) && decide (l.G<(p:Int)) && ((f l.G.toNat).e.toList == l.e.toList) else decide (l.G=0))
def bX (f:Nat->au)(p:Nat)(x:au):Nat->Bool
 |0=>ZH
 |k+1=>bX f p x k && dW f p (x.m k)
def aY (x:au):Bool:=decide (x.M=0) && decide (x.h=0) && decide (x.f=0)
def cC (f:Nat->au)(p:Nat)(x:au):Bool:=decide (0<=x.M) && decide (x.M<=5) && valid x.q x.h && decide (x.f<=200) && bX f p x x.f
def kindOk (f:Nat->au)(p:Nat)(x:au):Bool:=
 if x.L=1 then aY x else if x.L=2 then aY x && decide (x.H.size=0) else if x.L=3 then cC f p x else ZA
def bw (f:Nat->au)(p:Nat):Bool:=aA (f p).e && decide ((f p).H.size<=2000) && kindOk f p (f p)
def bj (f:Nat->au)(p:Nat):Nat->Bool
 |0=>ZH
 |k+1=>bj f p k && !((f k).e.toList == (f p).e.toList)
def aQ (g:Nat->Bool):Nat->Int
 |0=>-1
 |k+1=>if aQ g k=-1 then (if g k=ZH then -1 else k) else aQ g k
def ej{g:Nat->Bool}(h:∀i,i<n->g i=ZH):aQ g n=-1:=by
 induction n with
 |zero=>rfl
 |succ k b =>rw[aQ,if_pos (b λi hi=>h i (by omega)),if_pos (h k (by omega))]
def fQ{g:Nat->Bool}(hi:i<n)(f:g i=ZA)(h:∀j,j<i->g j=ZH):aQ g n=i:=by
 induction n with
 |zero=>omega
 |succ k b =>
  rw[aQ];by_cases e:i=k;{subst e;rw[if_pos (ej h),if_neg (by rw[f];simp)]};{have:=b (by omega);rw[this,if_neg (by omega)]}
def eN{g:Nat->Bool}(h:aQ g n=-1):∀i,i<n->g i=ZH:=by
 induction n with
 |zero=>intro i hi;omega
 |succ k b =>
  rw[aQ] at h;split at h
  ·rename_i h1;intro i hi;by_cases e:i=k
   ·subst e;cases hg:g i with
    |true=>rfl
    |false=>rw[hg] at h;simp at h
   {exact b h1 i (by omega)}
  {rename_i h1;exact absurd h h1}
def lI{f:Nat->au}{x:au}(h:bX f p x n=ZH):∀i,i<n->dW f p (x.m i)=ZH:=by
 induction n with
 |zero=>intro i hi;omega
 |succ k b =>
  simp only[bX,Bool.and_eq_true] at h;intro i hi;by_cases e:i=k;{subst e;exact h.2};{exact b h.1 i (by omega)}
def lks (go:Nat->Nat->(Nat->Bool)->(Nat->Bool) × List (Nat × Nat))(x:au)(d:Nat)(s:Nat->Bool):Nat->(Nat->Bool) × List (Nat × Nat)
 |0=>(s,[])
 |j+1=>if (x.m j).ask=ZH/\(lks go x d s j).1 (x.m j).G.toNat=ZA then ((go (x.m j).G.toNat (d+1) (lks go x d s j).1).1,(lks go x d s j).2++(go (x.m j).G.toNat (d+1) (lks go x d s j).1).2) else lks go x d s j
def put (s:Nat->Bool)(p:Nat):Nat->Bool:=λq=>q == p || s q
def lst (f:Nat->au):Nat->Nat->Nat->(Nat->Bool)->(Nat->Bool) × List (Nat × Nat)
 |0,_,_,s=>(s,[])
 |k+1,p,d,s=>(put (lks (lst f k) (f p) d s (f p).f).1 p,(lks (lst f k) (f p) d s (f p).f).2++[(p,d)])
def gA (f:Nat->au)(n:Nat):Prop:=∀p,p<n->∀i,i<(f p).f->((f p).m i).ask=ZH->((f p).m i).G.toNat<p/\0<=((f p).m i).G
def yh (s:Nat->Bool):Nat->Nat
 |0=>0
 |k+1=>yh s k+(if s k=ZH then 1 else 0)
def Iz (s:Nat->Bool)(n:Nat):yh s n<=n:=by
 induction n with
 |zero=>simp[yh]
 |succ k ih=>rw[yh];split<;>omega
def AG{s b:Nat->Bool}(h:∀q,q<n->s q=b q):yh s n=yh b n:=by
 induction n with
 |zero=>rfl
 |succ k f=>rw[yh,yh,f λq hq=>h q (by omega),h k (by omega)]
def GN{s:Nat->Bool}(hp:p<n)(h:s p=ZA):yh (put s p) n=yh s n+1:=by
 induction n with
 |zero=>omega
 |succ k b =>
  rw[yh,yh];by_cases e:p=k
  ·subst e;have h1:yh (put s p) p=yh s p:=AG λq hq=>by simp[put];omega
   simp[h1,put,h]
  ·have h1:put s p k=s k:=by simp[put];omega
   rw[b (by omega),h1];omega
structure Lsd (n p d:Nat)(s:Nat->Bool)(r:(Nat->Bool) × List (Nat × Nat)):Prop where
 far:∀q,p<q->r.1 q=s q
 old:∀q,s q=ZH->r.1 q=ZH
 num:yh r.1 n=yh s n+r.2.length
 last:∃o,r.2=o++[(p,d)]
 le:∀x∈r.2,x.1<=p
def xM {f:Nat->au}{n k p d:Nat}{s:Nat->Bool}(m:gA f n)(r:p<n)(go:∀q d s,q<p->s q=ZA->Lsd n q d s (lst f k q d s)):∀j,j<=(f p).f->(∀q,p<=q->(lks (lst f k) (f p) d s j).1 q=s q)/\(∀q,s q=ZH->(lks (lst f k) (f p) d s j).1 q=ZH)/\yh (lks (lst f k) (f p) d s j).1 n=yh s n+(lks (lst f k) (f p) d s j).2.length/\∀x∈(lks (lst f k) (f p) d s j).2,x.1<p
 |0,_=>⟨λ_ _=>rfl,λ_ h=>h,by simp[lks],by simp[lks]⟩
 |j+1,hj=>by
  obtain⟨h1,h2,l,o⟩:=xM (d:=d) (s:=s) m r go j (by omega);rw[lks];split
  ·rename_i t
   have u:=(m p r j (by omega) t.1).1;have g:=go _ (d+1) _ u t.2;refine⟨λq i=>(g.far q (by omega)).k (h1 q i),λq i=>g.old q (h2 q i),?_,λx b=>?_⟩
   ·show yh (lst f k _ (d+1) _).1 n=_
    rw[g.num,l,List.length_append];omega
   ·rcases List.mem_append.1 b with b|b
    ·exact o x b
    ·have:=g.le x b
     omega
  ·exact⟨h1,h2,l,o⟩
def xN {f:Nat->au}{n:Nat}(j:gA f n):∀k p d s,p<k->p<n->s p=ZA->Lsd n p d s (lst f k p d s)
 |0,_,_,_,h,_,_=>absurd h (Nat.not_lt_zero _)
 |k+1,p,d,s,hk,hn,i=>by
  obtain⟨h1,h2,l,o⟩:=xM (d:=d) (s:=s) j hn (λq d s g i=>xN j k q d s (by omega) (by omega) i) (f p).f (Nat.le_refl _);have m:=(h1 p (Nat.le_refl _)).k i;refine⟨λq g=>?_,λq g=>?_,?_,⟨_,rfl⟩,λx b=>?_⟩
  ·show put _ p q=s q
   rw[put,h1 q (by omega)];simp;omega
  ·show put _ p q=ZH
   rw[put,h2 q g];simp
  ·show yh (put _ p) n=_
   rw[GN hn m,l];simp[lst,List.length_append];omega
  ·rcases List.mem_append.1 b with b|b
   ·exact Nat.le_of_lt (o x b)
   ·simp at b
    subst b;exact Nat.le_refl _
def xO {f:Nat->au}{n:Nat}(i:gA f n):∀k p d s q,p<n->p<q->lst f k p d (put s q)=(put (lst f k p d s).1 q,(lst f k p d s).2)
 |0,_,_,_,_,_,_=>rfl
 |k+1,p,d,s,q,hn,hq=>by
  have g:∀j,j<=(f p).f->lks (lst f k) (f p) d (put s q) j=(put (lks (lst f k) (f p) d s j).1 q,(lks (lst f k) (f p) d s j).2):=by
   intro j;induction j with
   |zero=>intro _;rfl
   |succ j l =>
    intro hj;have e:=l (by omega);rw[lks,lks,e];by_cases b:((f p).m j).ask=ZH
    ·have ha:=(i p hn j (by omega) b).1
     have m:put (lks (lst f k) (f p) d s j).1 q ((f p).m j).G.toNat=(lks (lst f k) (f p) d s j).1 ((f p).m j).G.toNat:=by simp[put];omega
     simp only[m,b,true_and];split
     ·rw[xO i k _ (d+1) _ q (by omega) (by omega)]
     ·rfl
    ·rw[if_neg (λh=>b h.1),if_neg (λh=>b h.1)]
  have e:=g (f p).f (Nat.le_refl _);rw[lst,lst,e];simp only[Prod.mk.injEq,and_true];funext x;simp only[put];cases h1:x == p<;>cases h2:x == q<;>simp
def bG:Nat->List (Nat × Nat)->Int
 |_,[]=>-1
 |i,x::xs=>if x.1=i then bG (i+1) xs else i
def bm (f:Nat->au):List (Nat × Nat)->Int
 |[]=>-1
 |x::xs=>if (f x.1).L=3/\60<=x.2 then x.1 else bm f xs
def aG (f:Nat->au)(n:Nat):List (Nat × Nat):=(lst f n (n - 1) 0 (λ_=>ZA)).2
def dE (f:Nat->au)(n:Nat):Int × Int:=
 if n=0\/400<n then (1,0) else
 if aQ (bw f) n≠-1 then (2,aQ (bw f) n) else
 if aQ (λp=>bj f p p) n≠-1 then (3,aQ (λp=>bj f p p) n) else
 if bG 0 (aG f n)≠-1 then (4,bG 0 (aG f n)) else
 if bm f (aG f n)≠-1 then (5,bm f (aG f n)) else (0,0)
def jE{f:Nat->au}(h:aQ (bw f) n=-1):gA f n:=by
 intro p b i hi j;have h1:=eN h p b;simp only[bw,Bool.and_eq_true,kindOk] at h1;obtain⟨_,h2⟩:=h1;split at h2;{simp[aY] at h2;omega};{split at h2;{simp[aY] at h2;omega};{split at h2;{simp only[cC,Bool.and_eq_true] at h2;have g:=lI h2.2 i hi;simp only[dW,j,if_true,Bool.and_eq_true,decide_eq_true_eq] at g;omega};{cases h2}}}
def sj (x:au)(a0:O_)(b:Nat)(a1:O_)(f:Nat)(w:E):Qw Pg 161 #[.agg #[.string x.e,.int I x.L,.int I x.M,.string x.H,Y a0 x.h b,Y a1 x.f f]] w λe l=>e=ZI (.agg #[.bool (decide (¬ x.L=2)),.int I x.M,.string x.H])/\Below (J (U w)) w l:=by
 have j:=ae ((Below.refl (J (U w)) w).alloc (Nat.le_refl _) (N #[.string x.e,.int I x.L,.int I x.M,.string x.H,Y a0 x.h b,Y a1 x.f f] 62));obtain⟨r,g⟩:∃r,r=decide (¬ x.L=2):=⟨_,rfl⟩
 rw[<-g];have i:=ae g;clear g;go_enter func161,ntmps161;by_cases h:x.L=2
 ·obtain rfl:r=ZA:=by rw[i.i];simp[h]
  go_wp2
  exact bodyPost_ret (v:=.agg #[.bool ZA,.int I x.M,.string x.H]) (by simp[results,results161,go_sem]) rfl ⟨rfl,by
   repeat (first|exact j|exact Below.refl _ _|refine Below.alloc ?_ (by simp<;>omega) _)⟩
 ·obtain rfl:r=ZH:=by rw[i.i];simp[h]
  go_wp2
  exact bodyPost_ret (v:=.agg #[.bool ZH,.int I x.M,.string x.H]) (by simp[results,results161,go_sem,h]) rfl ⟨rfl,by
   repeat (first|exact j|exact Below.refl _ _|refine Below.alloc ?_ (by simp<;>omega) _)⟩
def SBx (V:E)(b:Nat)(g f:ZB):Prop:=V.heap[b]?=Q (N #[g,f] 29 (0,0))
def SBx.c0{v1:ZB}(h:SBx V b f v1):z V (T b 0 Z)=Q f:=by have g:V.heap[b]?=Q (N #[f,v1] 29 (0,0)):=h;simp[World.cell?,g]
def SBx.c1{g:ZB}(h:SBx V b g f):z V (T b 1 Z)=Q f:=by have i:V.heap[b]?=Q (N #[g,f] 29 (0,0)):=h;simp[World.cell?,i]
def SBx.aa{B:Nat}{g:ZB}(h:SBx V b g f)(hb:Below B V ZN)(i:J (U V)<=B):SBx ZN b g f:=
 (hb.p b (Nat.lt_of_lt_of_le (aj h) i)).k h
def PBx (V:E)(b:Nat)(f:ZB):Prop:=V.heap[b]?=Q (N #[f] 37 (0,0))
def PBx.c0 (h:PBx V b f):z V (T b 0 Z)=Q f:=by have g:V.heap[b]?=Q (N #[f] 37 (0,0)):=h;simp[World.cell?,g]
def PBx.aa{B:Nat}(h:PBx V b f)(hb:Below B V ZN)(g:J (U V)<=B):PBx ZN b f:=
 (hb.p b (Nat.lt_of_lt_of_le (aj h) g)).k h
structure PP (V:E)(pb g pm pc:Nat)(fp:Nat->Ins):Prop where
 p:PBx V pb (Y (Q (T g 0 Z)) pm pc)
 i:Q_ V g 0 pm fp
def AB (V:E)(b:Nat)(v:ZB):Prop:=V.heap[b]?=Q (N #[v] 25 (0,0))
def AB.c0{v:ZB}(h:AB V b v):z V (T b 0 Z)=Q v:=by have f:V.heap[b]?=Q (N #[v] 25 (0,0)):=h;simp[World.cell?,f]
def AB.aa{B:Nat}{v:ZB}(h:AB V b v)(hb:Below B V ZN)(f:J (U V)<=B):AB ZN b v:=
 (hb.p b (Nat.lt_of_lt_of_le (aj h) f)).k h
def kE (x y:Ins):Bool:=x.op == y.op && x.s.toList == y.s.toList && x.n == y.n
def cO (f g:Nat->Ins):Nat->Bool
 |0=>ZH
 |k+1=>cO f g k && kE (f k) (g k)
def cD (f g:Nat->Ins)(n m:Nat):Bool:=decide (n=m) && cO f g n
def pT{f g:Nat->Ins}{k:Nat}(h:k<=n)(hn:cO f g n=ZH):cO f g k=ZH:=by
 induction n with
 |zero =>
  obtain rfl:k=0:=by omega
  exact hn
 |succ m b =>
  by_cases e:k=m+1;{subst e;exact hn};{simp only[cO,Bool.and_eq_true] at hn;exact b (by omega) hn.1}
def kF{f g:Nat->Ins}{k:Nat}(h:k<n)(b:kE (f k) (g k)=ZA):cO f g n=ZA:=by
 cases e:cO f g n with
 |false=>rfl
 |true =>have h2:=pT (show k+1<=n by omega) e;simp[cO,b] at h2
def wU (s:F_)(w:E):Qw Pg 113 #[.string s] w λe m=>e=ZI (.bool (aA s))/\m=w:=by
 by_cases h1:1<=(s.size:Int)
 ·by_cases h2:(s.size:Int)<=60
  ·have h:Hid (aA s=dM s s.size):=by
    show aA s=dM s s.size;unfold aA;rw[show decide (1<=s.size/\s.size<=60)=ZH by simp;omega,Bool.true_and]
   go_enter func113,ntmps113;go_wp2;go_loopw [14] (λi wr=>∃k:Nat,k<=s.size/\i=.int I k/\dM s k=ZH/\wr=w) (λi _=>s.size - (intOf i).toNat);case atStart=>exact⟨0,by omega,rfl,rfl,rfl⟩
   case round =>
    obtain⟨k,hk,rfl,g,l⟩:=hrel;have f:=ae l;have j:=ae g;clear l g;by_cases b:k<s.size
    ·by_cases p1:33<=(s[k].toNat:Int)
     {by_cases p2:(s[k].toNat:Int)<=126;{go_wp2;exact⟨⟨k+1,by omega,by go_num,by rw[kC b,j.i];simp;omega,f⟩,by simp[intOf];omega⟩};{go_wp2;go_ret;exact⟨bv (by rw[h.i,gV b (by omega)]),f⟩}};{go_wp2;go_ret;exact⟨bv (by rw[h.i,gV b (by omega)]),f⟩}
    ·have e:k=s.size:=by omega
     subst e;go_wp2;go_ret;exact⟨bv (by rw[h.i,j.i]),f.i⟩
  {have e:aA s=ZA:=(by unfold aA;rw[show decide (1<=s.size/\s.size<=60)=ZA by simp;omega,Bool.false_and]);rw[e];clear e;go_enter func113,ntmps113;go_wp2;go_ret;exact⟨rfl,rfl⟩}
 {have e:aA s=ZA:=(by unfold aA;rw[show decide (1<=s.size/\s.size<=60)=ZA by simp;omega,Bool.false_and]);rw[e];clear e;go_enter func113,ntmps113;go_wp2;go_ret;exact⟨rfl,rfl⟩}
structure AuBox (W:E)(b:Nat)(v s0 s1:ZB):Prop where
 lt:b+1<J (U W)
 c0:z W (T b 0 Z)=Q v
 c1:z W (T (b+1) 0 Z)=Q s0
 c2:z W (T (b+1) 1 Z)=Q s1
def AuBox.aa{f:E}{B:Nat}{v s0 s1:ZB}(h:AuBox W b v s0 s1)(hb:Below B W f)(g:b+1<B):AuBox f b v s0 s1:=
 ⟨Nat.lt_of_lt_of_le h.lt hb.size,(hb.O (p:=(T b 0 Z)) (by show b<B;omega)).k h.c0,(hb.O (p:=(T (b+1) 0 Z)) g).k h.c1,(hb.O (p:=(T (b+1) 1 Z)) g).k h.c2⟩
def AH (w:E)(v s0 s1:ZB)(t u:ZK):AuBox ((w.alloc (N #[v] t)).alloc (N #[s0,s1] u)) (J (U w)) v s0 s1:=
 ⟨by simp,by simp[go_sem],by simp[go_sem],by simp[go_sem]⟩
