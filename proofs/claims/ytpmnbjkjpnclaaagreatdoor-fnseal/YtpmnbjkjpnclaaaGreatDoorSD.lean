import Derived.Test.YtpmnbjkjpnclaaaGreatDoorProg
import Derived.WalkKit
import Derived.WalkSpells
import Derived.WalkLawsBesides
import Derived.Deep.OwnRows
import Derived.Deep.RegionWith
import Derived.Deep.QuietTactic
import Derived.BigQuiet
set_option maxHeartbeats 1000000
open Go renaming Addr.mk->Q,Value.slice->Z,Value.string->Y,Value.int->J,Value.bool->ZD,Obj.cells->N,IntKind.i64->I,World->M,Value->ZC,TypeId->ZH,Ending.returned->ZF,World.cell?->A,Proofs.Tryz.prog->Pg
open Option renaming none->U,some->T
open Bool renaming false->ZA,true->ZG
namespace Go.Proofs.YtpmnbjkjpnclaaaGreatDoor.Vp
open Tryz RowKit
variable {w c W f:M}{n B b off i p:Nat}{s:ByteArray}{a:Option Addr}{t:ZH}{P:Nat->Prop}{g:Nat->Bool}
theorem lj{a c:Nat}(h:a<b)(g:b<=c):a<c:=Nat.lt_of_lt_of_le h g
theorem q9 (w:M):Below w.heap.size w w:=Below.refl _ _
theorem br:Below B w w:=Below.refl _ _
abbrev sq:=@World.cell?_setCell_other
abbrev qh:=@Below.heap_setCell
abbrev bp:=@bodyPost_ret
abbrev gq:=@List.getElem?_eq_getElem
abbrev cq:=@World.cell?_of_block
abbrev bg:=@Below.grown
abbrev gz:=@List.getElem_mem
abbrev nj:=@List.not_mem_nil
abbrev mq:=@List.mem_cons_of_mem
abbrev cM:=@List.length_append
abbrev dB:=@Below.refl
abbrev eL:=@List.length_cons
abbrev eT:=@Array.getElem?_eq_some_iff
abbrev gM:=@if_neg
abbrev nD:=@List.mem_singleton
abbrev nL:=@heap_alloc_new
abbrev nX:=@List.length_nil
abbrev n6:=@Nat.le_refl
abbrev n8:=@List.getElem?_eq_some_iff
abbrev p6:=@if_pos
abbrev p7:=@Nat.le_trans
abbrev p8:=@List.mem_append
abbrev p9:=@IntKind.wrap_i64
abbrev wA:=@congrArg
abbrev z8:=@Bool.and_eq_true
abbrev AI:=@decide_eq_true_eq
abbrev AP:=@Nat.lt_succ_self
abbrev AS:=@Int.eq_ofNat_of_zero_le
abbrev AT:=@List.mem_cons
abbrev A9:=@World.ownsRow_nil
abbrev BC:=@Option.some.inj
abbrev BG:=@ByteArray.toList_eq
abbrev BM:=@below_drewN
abbrev BO:=@List.flatMap_append
abbrev BS:=@wpList_append_own
abbrev CP:=@Array.getElem?_modify
abbrev CV:=@List.size_toArray
abbrev CX:=@World.cell?_setCell_same'
abbrev DN:=@List.map_append
abbrev DW:=@List.length_singleton
abbrev E4:=@Nat.zero_le
abbrev FM:=@Nat.zero_add
abbrev F3:=@underlying9
abbrev F6:=@Nat.le_succ
abbrev GC:=@List.length_pos_iff
abbrev GD:=@Nat.lt_of_lt_of_le
abbrev HU:=@Lib.cell_of_heap
abbrev IA:=@List.getD_eq_getElem?_getD
abbrev IB:=@underlying30
abbrev IH:=@ByteArray.size_append
abbrev IN:=@List.cons_append
abbrev IS:=@underlying22
abbrev IU:=@List.take_of_length_le
abbrev IX:=@List.getElem?_append_right
abbrev JN:=@World.frozen?_of_block
abbrev J2:=@List.flatMap_cons
abbrev KK:=@List.length_set
abbrev LB:=@List.mem_of_getElem?
abbrev LD:=@List.length_drop
abbrev LK:=@Prod.mk.injEq
abbrev LN:=@List.nil_append
abbrev LY:=@Array.getElem?_toList
abbrev L3:=@underlying5
abbrev L8:=@info_parts
abbrev NY:=@UInt8.toNat_ofNat'
abbrev NZ:=@List.getElem?_map
abbrev N1:=@Value.slice.injEq
abbrev N5:=@ByteArray.ext
abbrev N9:=@List.getElem?_append_left
abbrev OB:=@Option.map_eq_some_iff
abbrev OD:=@List.length_take
abbrev OH:=@List.getElem?_eq_none
abbrev OJ:=@Option.some.injEq
abbrev ON:=@List.append_assoc
abbrev OP:=@Lib.frozen_of_heap
abbrev OQ:=@List.range_succ
abbrev OR:=@Lib.byteCells_length
abbrev OT:=@underlying35
abbrev OU:=@decide_eq_false_iff_not
abbrev OV:=@List.mem_or_eq_of_mem_set
abbrev PC:=@List.extract_eq_take_drop
abbrev PD:=@underlying3
abbrev PE:=@List.mem_range
abbrev PF:=@List.pairwise_append
abbrev PH:=@ByteArray.data_extract
abbrev PI:=@List.take_append_drop
abbrev PJ:=@Nat.lt_or_ge
abbrev PK:=@Nat.not_lt_zero
abbrev PL:=@List.length_eq_zero_iff
abbrev PM:=@List.map_cons
abbrev PO:=@List.pairwise_iff_getElem
abbrev PQ:=@List.map_nil
abbrev PR:=@run_convert_bytes_back
abbrev PS:=@World.ownsRow_made
abbrev PT:=@Nat.add_zero
abbrev PU:=@List.getElem?_set_self
abbrev PV:=@List.mem_flatMap
abbrev PX:=@Array.length_toList
abbrev P0:=@Nat.le_of_lt
abbrev P3:=@Below.heap_setCell
abbrev P6:=@Array.toList_extract
abbrev P7:=@Array.replicate_succ
abbrev P9:=@Array.replicate_zero
abbrev QB:=@underlying125
abbrev QC:=@List.mem_append_left
abbrev QD:=@Array.getElem?_eq_none
abbrev QE:=@List.append_toArray
abbrev QG:=@of_decide_eq_true
abbrev QH:=@underlying25
abbrev QI:=@heap_alloc_old
abbrev QJ:=@zeroValue3
abbrev QK:=@List.getElem?_set_ne
abbrev QN:=@Int.tmod_eq_emod_of_nonneg
abbrev QO:=@List.take_succ_eq_append_getElem
abbrev QP:=@List.mem_map
abbrev QR:=@Array.toList_setIfInBounds
abbrev QS:=@Array.ext'
abbrev QU:=@List.push_toArray
abbrev QV:=@underlying44
abbrev QW:=@Nat.min_eq_left
abbrev QX:=@List.length_map
abbrev QY:=@List.drop_eq_getElem_cons
abbrev QZ:=@or_false
abbrev Q2:=@List.mem_append_right
abbrev Q3:=@ntmps214
abbrev Q9:=@List.getElem?_of_mem
abbrev RB:=@underlying41
abbrev RC:=@underlying24
abbrev RH:=@zeroValue9
abbrev RJ:=@zeroValue5
abbrev RK:=@results156
abbrev RP:=@Lib.OthersKept.refl
abbrev RQ:=@ByteArray.size_extract
abbrev RU:=@func214
abbrev RV:=@World.ownsRow.lt
abbrev RY:=@underlying4
abbrev RZ:=@underlying321
abbrev SD:=@List.set_append_right
abbrev SE:=@List.length_replicate
abbrev SF:=@List.findIdx?_eq_some_iff_getElem
abbrev SH:=@List.findIdx?_eq_none_iff
abbrev SJ:=@Bool.eq_iff_iff
abbrev SN:=@UInt8.toNat_inj
abbrev SS:=@results130
abbrev SU:=@Result.andThen_ok
abbrev SV:=@sizeOf5
abbrev SW:=@Below.drew
abbrev SY:=@List.append_inj'
abbrev TA:=@Bool.false_eq_true
abbrev TB:=@sizeOf3
abbrev TC:=@sizeOf9
abbrev TD:=@underlying215
abbrev TF:=@true_and
abbrev TG:=@IntKind.wrap_u8
abbrev TH:=@Oper.semAt_some
abbrev TI:=@zeroValue4
abbrev TJ:=@Oper.upon_value
abbrev TK:=@results213
abbrev TM:=@Value.slice.inj
abbrev TN:=@results106
abbrev TO:=@World.var?_cell
abbrev TP:=@Addr.mk.injEq
abbrev TQ:=@ntmps301
abbrev TT:=@List.countP_mono_left
abbrev TU:=@List.countP_le_length
abbrev TV:=@List.take_add_one
abbrev TW:=@List.ext_getElem?
abbrev TX:=@Nat.mod_lt
abbrev TY:=@Below.alloc
abbrev TZ:=@List.exists_cons_of_ne_nil
abbrev T0:=@Array.getElem?_append_left
abbrev T1:=@isAgg3
abbrev T3:=@isAgg9
abbrev T8:=@isAgg5
abbrev T9:=@results33
abbrev UA:=@results34
abbrev UB:=@List.map_toArray
abbrev UC:=@underlying0
abbrev UD:=@zeroValue22
abbrev UE:=@List.cons_ne_nil
abbrev UF:=@func301
abbrev UG:=@Array.getElem?_eq_getElem
abbrev UH:=@Classical.byContradiction
abbrev UI:=@Decidable.byContradiction
abbrev UJ:=@World.ownsRow.cells
abbrev UK:=@List.getElem_of_mem
abbrev UL:=@Int.toNat_of_nonneg
abbrev UM:=@Bool.and_true
abbrev UN:=@Bool.true_and
abbrev UO:=@ntmps109
abbrev UR:=@Option.map_some
abbrev US:=@heap_alloc2_new
abbrev UT:=@zeroValue0
abbrev UU:=@List.set_cons_succ
abbrev UV:=@underlying207
abbrev UW:=@underlying260
abbrev UX:=@underlying309
abbrev UY:=@underlying203
abbrev UZ:=@List.filter_append
abbrev U0:=@List.getElem?_cons_succ
abbrev U2:=@List.pairwise_singleton
abbrev U3:=@func109
abbrev U4:=@Nat.lt_of_succ_lt
abbrev U5:=@callsIn_wide
abbrev U6:=@zeroValue215
abbrev U7:=@func195
abbrev U8:=@sizeOf4
abbrev U9:=@underlying20
abbrev VA:=@zeroValue260
abbrev VB:=@zeroValue309
abbrev VC:=@UInt8.not_lt
abbrev VE:=@results35
abbrev VF:=@List.drop_eq_nil_of_le
abbrev VG:=@List.set_set
abbrev VH:=@World.frozen?_setCell
abbrev VJ:=@ownsRow_setCell_other
abbrev VK:=@ownsRow_setCell_below
abbrev VL:=@List.not_mem_nil
abbrev VM:=@Nat.succ_le_succ
abbrev VN:=@zeroValue20
abbrev VO:=@List.flatMap_map
abbrev VQ:=@List.getElem_map
abbrev VR:=@dif_pos
abbrev VT:=@List.take_set
abbrev VU:=@callsIn_of_wp
abbrev VV:=@sizeOf22
abbrev VW:=@List.all_cons
abbrev VX:=@World.cell?_of_block
abbrev VY:=@List.set_append_left
abbrev VZ:=@List.mem_of_mem_take
abbrev V4:=@isAgg4
abbrev V5:=@List.prefix_rfl
abbrev V8:=@List.append_nil
abbrev WD:=@List.map_congr_left
abbrev WE:=@List.dropWhile_cons
abbrev WF:=@Sem.run_bind
abbrev WG:=@Sem.run_pure
abbrev WH:=@Nat.zero_mul
abbrev WJ:=@Ne.symm
abbrev WK:=@sizeOf0
abbrev WM:=@isAgg22
abbrev WN:=@List.all_nil
abbrev WO:=@if_false
abbrev WP:=@underlying151
abbrev WQ:=@underlying281
abbrev WS:=@List.prefix_append
abbrev WT:=@grownCap_le_maxLen
abbrev WU:=@List.getElem?_take
abbrev WV:=@underlying127
abbrev WW:=@sizeOf215
abbrev WX:=@underlying211
abbrev WY:=@sizeOf260
abbrev WZ:=@sizeOf309
abbrev XB:=@underlying338
abbrev XC:=@underlying370
abbrev XD:=@isAgg0
abbrev XE:=@ntmps145
abbrev XF:=@ntmps220
abbrev XG:=@ntmps210
abbrev XH:=@Lib.alloc_old
abbrev XI:=@isAgg215
abbrev XJ:=@sizeOf20
abbrev XK:=@isAgg260
abbrev XL:=@isAgg309
abbrev XM:=@ntmps195
abbrev XO:=@ntmps282
abbrev XP:=@Sum.inl.injEq
abbrev XQ:=@bne_iff_ne
abbrev XR:=@func5
theorem ly:n<=n:=Nat.le_refl n
theorem ae{p:Prop}(h:p):Hid p:=h
theorem nzL{c:Type}:(∀(l:List c) (i:Nat) (a:c),l.toArray.setIfInBounds i a=(l.set i a).toArray)/\(∀(a b:c) (l:List c),(a::l).set 0 b=b::l)/\∀(a b:c) (l:List c) (i:Nat),(a::l).set (i+1) b=a::l.set i b :=
 ⟨λ_ _ _=>List.setIfInBounds_toArray ..,λ_ _ _=>rfl,λ_ _ _ _=>rfl⟩
theorem JV (hb:Below W.heap.size W c):(∀b o,b<W.heap.size->A c (Q b o U)=A W (Q b o U))/\(∀b o,b<W.heap.size->c.frozen? (Q b o U)=W.frozen? (Q b o U)) :=
 ⟨λb o h=>hb.cell (p:=(Q b o U)) h,λb o h=>hb.frozen (p:=(Q b o U)) h⟩
theorem cell_far (w:M)(p a:Addr)(v:ZC)(h:p.block≠a.block):(w.setCell p v).cell? a=w.cell? a :=
 World.cell?_of_block (w:=w) (a:=a) (Below.heap_setCell w p v a.block (λe=>h e.symm))
theorem cG{a b:Bool}(h:a=b):Ending.returned (ZD a)=ZF (ZD b):=by rw[h]
theorem fO{a b:ByteArray}(h:a=b):Ending.returned (Y a)=ZF (Y b):=by rw[h]
theorem ji (h:s.size=0):s=⟨#[]⟩:=by obtain⟨a⟩:=s;have:a.size=0:=h;rw[Array.eq_empty_of_size_eq_zero this]
theorem i8 (h:¬ s.size=0):¬ s.toList=[]:=by
 intro e;have h2:s.toList.length=s.size:=by rw[ByteArray.toList_eq];rfl
 rw[e] at h2;simp at h2;omega
theorem nb1{c:Array ZC}{s:ZH}(h:w.alloc (N c s)=W):Hid (Below w.heap.size w W)/\Hid (W.heap[w.heap.size]?=T (N c s (0,0)))/\W.heap.size=w.heap.size+1:=by subst h;exact⟨(Below.refl w.heap.size w).alloc (Nat.le_refl _) _,heap_alloc_new w _,by simp⟩
theorem nb2{c d:Array ZC}{s:ZH}(h:(w.alloc (N c s)).alloc (N d t)=W):Hid (Below w.heap.size w W)/\Hid (W.heap[w.heap.size]?=T (N c s (0,0)))/\Hid (W.heap[w.heap.size+1]?=T (N d t (0,0)))/\W.heap.size=w.heap.size+2:=by obtain⟨ZR,K,z⟩:=nb1 (w:=w) (c:=c) (s:=s) rfl;obtain⟨B,ZN,y⟩:=nb1 h;rw[z] at B ZN y;exact⟨Below.trans ZR.out (B.out.mono (by omega)),(B.out.block _ (by omega)).trans K.out,ZN,y⟩
theorem nb3{c d f:Array ZC}{s u:ZH}(h:((w.alloc (N c s)).alloc (N d t)).alloc (N f u)=W):Hid (Below w.heap.size w W)/\Hid (W.heap[w.heap.size]?=T (N c s (0,0)))/\Hid (W.heap[w.heap.size+1]?=T (N d t (0,0)))/\Hid (W.heap[w.heap.size+2]?=T (N f u (0,0)))/\W.heap.size=w.heap.size+3:=by obtain⟨ZR,K,L,z⟩:=nb2 (w:=w) (c:=c) (d:=d) (s:=s) (t:=t) rfl;obtain⟨B,ZN,y⟩:=nb1 h;rw[z] at B ZN y;exact⟨Below.trans ZR.out (B.out.mono (by omega)),(B.out.block _ (by omega)).trans K.out,(B.out.block _ (by omega)).trans L.out,ZN,y⟩
theorem al3 (h:∀j,P j):P 0/\P 1/\P 2:=⟨h 0,h 1,h 2⟩
theorem al6 (h:∀j,P j):P 0/\P 1/\P 2/\P 3/\P 4/\P 5:=⟨h 0,h 1,h 2,h 3,h 4,h 5⟩
theorem bl6 (h:∀j,j<6->P j):P 0/\P 1/\P 2/\P 3/\P 4/\P 5:=⟨h 0 (by decide),h 1 (by decide),h 2 (by decide),h 3 (by decide),h 4 (by decide),h 5 (by decide)⟩
structure Ins where
 op:Int
 s:ByteArray
 n:Int
def AtIns (w:M)(b off i:Nat)(x:Ins):Prop :=
 A w (Q b (off+i*3) U)=T (J I x.op)/\A w (Q b (off+i*3+1) U)=T (Y x.s)/\A w (Q b (off+i*3+2) U)=T (J I x.n)
theorem AtIns.aa{x:Ins}(h:AtIns w b off i x)(hb:Below B w f)(c:b<B):AtIns f b off i x :=
 ⟨(hb.cell (p:=(Q b _ U)) c).trans h.1,(hb.cell (p:=(Q b _ U)) c).trans h.2.1,(hb.cell (p:=(Q b _ U)) c).trans h.2.2⟩
def RowIns (w:M)(b off n:Nat)(f:Nat->Ins):Prop:=b<w.heap.size/\∀i,i<n->AtIns w b off i (f i)
theorem RowIns.aa{f:Nat->Ins}(h:RowIns w b off n f)(hb:Below B w c)(g:w.heap.size<=B):RowIns c b off n f :=
 ⟨Nat.lt_of_lt_of_le h.1 hb.size,λi hi=>(h.2 i hi).aa hb (Nat.lt_of_lt_of_le h.1 g)⟩
def SlIns (w:M)(a:Option Addr)(n:Nat)(f:Nat->Ins):Prop:=n=0∨∃b off,a=T (Q b off U)/\RowIns w b off n f
theorem SlIns.aa{f:Nat->Ins}(h:SlIns w a n f)(hb:Below B w c)(j:w.heap.size<=B):SlIns c a n f:=by
 rcases h with h|⟨b,off,i,g⟩
 {exact .inl h};{exact .inr ⟨b,off,i,g.aa hb j⟩}
theorem RowIns.sl{f:Nat->Ins}(h:RowIns w b off n f):SlIns w (T (Q b off U)) n f:=.inr ⟨b,off,rfl,h⟩
theorem li:(Pg.info? 151).map (λi=>(i.zero,i.size,i.bytes))=T (T (.agg #[J I 0,Y ⟨#[]⟩,J I 0]),3,32):=by kernel_rfl
def word:Int->List UInt8
 |1=>[108,105,116]|2=>[99,97,116]|3=>[99,117,116]|4=>[114,101,115,116]|5=>[119,111,114,100]|6=>[115,97,109,101]|7=>[100,117,112]|8=>[115,119,97,112]|9=>[100,114,111,112]
 |10=>[106,117,109,112]|11=>[117,110,108,101,115,115]|12=>[97,115,107]|13=>[104,97,115]|14=>[102,97,105,108]|15=>[101,110,100]|_=>[]
def kind:Int->Int
 |1=>1|3=>2|4=>2|5=>2|10=>3|11=>3|_=>0
theorem yH (op:Int)(w:M):Calls Pg 204 #[J I op] w λe f=>e=ZF (.tuple #[Y ⟨(word op).toArray⟩,J I (kind op)])/\f=w:=by
 by_cases h:1<=op/\op<=15
 ·have g:op=1∨op=2∨op=3∨op=4∨op=5∨op=6∨op=7∨op=8∨op=9∨op=10∨op=11∨op=12∨op=13∨op=14∨op=15:=by omega
  clear h;rcases g with rfl|rfl|rfl|rfl|rfl|rfl|rfl|rfl|rfl|rfl|rfl|rfl|rfl|rfl|rfl;all_goals
   go_enter func204,ntmps204;go_wp2;go_ret2;exact⟨rfl,rfl⟩
 ·have b:word op=[]:=by
   unfold word;split<;>first|omega|rfl
  have c:kind op=0:=by unfold kind;split<;>first|omega|rfl
  rw[b,c];clear b c;rcases(show op<1∨15<op by omega) with h|h;all_goals
   go_enter func204,ntmps204;go_wp2;go_ret2;exact⟨rfl,rfl⟩
def aE (op:Int):Int:=if op=1 then 2000 else 0
def bO (op:Int):Int:=if op=3∨op=4∨op=5 then 2000 else if op=10∨op=11 then 200 else 0
def aH (op:Int)(sz:Nat)(n:Int):Bool:=decide (1<=op/\op<=15/\(sz:Int)<=aE op/\0<=n/\n<=bO op)
theorem yI (op:Int)(s:ByteArray)(n:Int)(w:M)(c:s.size<=maxLen)(hz:¬ s.toList=[])(h0:0<s.size):Calls Pg 145 #[.agg #[J I op,Y s,J I n]] w λe b=>e=ZF (ZD (aH op s.size n))/\Below w.heap.size w b:=by
 unfold maxLen at c;by_cases h:1<=op/\op<=15
 ·have f:op=1∨op=2∨op=3∨op=4∨op=5∨op=6∨op=7∨op=8∨op=9∨op=10∨op=11∨op=12∨op=13∨op=14∨op=15:=by omega
  clear h;rcases f with rfl|rfl|rfl|rfl|rfl|rfl|rfl|rfl|rfl|rfl|rfl|rfl|rfl|rfl|rfl;all_goals
   go_enter func145,ntmps145;go_wp2;all_goals go_ret
   all_goals refine⟨cG ?_,(Below.refl _ _).alloc (Nat.le_refl _) _⟩
   all_goals (rw[Bool.eq_iff_iff];generalize s.size=z at *;simp[aH,aE,bO];try omega)
 ·rcases(show op<1∨15<op by omega) with h|h;all_goals
   go_enter func145,ntmps145;go_wp2;go_ret;refine⟨cG ?_,(Below.refl _ _).alloc (Nat.le_refl _) _⟩;rw[Bool.eq_iff_iff];simp[aH];omega
theorem yJ (op:Int)(n:Int)(w:M):Calls Pg 145 #[.agg #[J I op,Y ⟨#[]⟩,J I n]] w λe b=>e=ZF (ZD (aH op 0 n))/\Below w.heap.size w b:=by
 by_cases h:1<=op/\op<=15
 ·have c:op=1∨op=2∨op=3∨op=4∨op=5∨op=6∨op=7∨op=8∨op=9∨op=10∨op=11∨op=12∨op=13∨op=14∨op=15:=by omega
  clear h;rcases c with rfl|rfl|rfl|rfl|rfl|rfl|rfl|rfl|rfl|rfl|rfl|rfl|rfl|rfl|rfl;all_goals
   go_enter func145,ntmps145;go_wp2;all_goals go_ret
   all_goals refine⟨cG ?_,(Below.refl _ _).alloc (Nat.le_refl _) _⟩
   all_goals (rw[Bool.eq_iff_iff];simp[aH,aE,bO];try omega)
 ·rcases(show op<1∨15<op by omega) with h|h;all_goals
   go_enter func145,ntmps145;go_wp2;go_ret;refine⟨cG ?_,(Below.refl _ _).alloc (Nat.le_refl _) _⟩;rw[Bool.eq_iff_iff];simp[aH];omega
theorem iO (op:Int)(s:ByteArray)(n:Int)(w:M)(c:s.size<=maxLen):Calls Pg 145 #[.agg #[J I op,Y s,J I n]] w λe b=>e=ZF (ZD (aH op s.size n))/\Below w.heap.size w b:=by
 by_cases h:s.size=0;{have e:=ji h;subst e;exact yJ op n w};{exact yI op s n w c (i8 h) (by omega)}
theorem yK (k:Nat)(s:ByteArray)(n c b:Int)(w:M)(h1:1<=(k:Int))(h2:(k:Int)<=15)
  (hT:A w (Q 1 (k*5+1) U)=T (J I c)) (hN:A w (Q 1 (k*5+2) U)=T (J I b)) (hz:1<w.heap.size)
  (ht:(s.size:Int)<=c) (hn:0<=n) :
  Calls Pg 220 #[.agg #[J I k,Y s,J I n]] w λe f=>e=ZF (ZD (decide (n<=b)))/\Below w.heap.size w f:=by
 go_enter func220,ntmps220;go_wp2;go_quiet (fail);go_wp2;go_ret;exact⟨rfl,below_drewN ((Below.refl _ _).alloc (Nat.le_refl _) _) _⟩
theorem yM (k:Nat)(s:ByteArray)(n b:Int)(w:M)(h1:1<=(k:Int))(h2:(k:Int)<=15)
  (hT:A w (Q 1 (k*5+1) U)=T (J I b)) (hz:1<w.heap.size)
  (ht:(s.size:Int)<=b) (hn:n<0) :
  Calls Pg 220 #[.agg #[J I k,Y s,J I n]] w λe c=>e=ZF (ZD ZA)/\Below w.heap.size w c:=by
 have hd:decide (0<=n)=ZA:=by simp;omega
 go_enter func220,ntmps220;go_wp2;go_quiet (fail);go_wp2;go_ret;exact⟨rfl,below_drewN ((Below.refl _ _).alloc (Nat.le_refl _) _) _⟩
theorem yN (k:Nat)(s:ByteArray)(n b:Int)(w:M)(h1:1<=(k:Int))(h2:(k:Int)<=15)
  (hT:A w (Q 1 (k*5+1) U)=T (J I b)) (hz:1<w.heap.size)
  (ht:b<(s.size:Int)) :
  Calls Pg 220 #[.agg #[J I k,Y s,J I n]] w λe c=>e=ZF (ZD ZA)/\Below w.heap.size w c:=by
 have hd:decide ((s.size:Int)<=b)=ZA:=by simp;omega
 go_enter func220,ntmps220;go_wp2;go_quiet (fail);go_wp2;go_ret;exact⟨rfl,below_drewN ((Below.refl _ _).alloc (Nat.le_refl _) _) _⟩
theorem yO (op:Int)(s:ByteArray)(n:Int)(w:M)(h:op<1∨15<op):Calls Pg 220 #[.agg #[J I op,Y s,J I n]] w λe b=>e=ZF (ZD ZA)/\Below w.heap.size w b:=by
 rcases h with h|h;all_goals
  go_enter func220,ntmps220;go_wp2;go_ret;exact⟨rfl,(Below.refl _ _).alloc (Nat.le_refl _) _⟩
def Tab (w:M):Prop:=1<w.heap.size/\∀k:Nat,k<16->A w (Q 1 (k*5+1) U)=T (J I (aE k))/\A w (Q 1 (k*5+2) U)=T (J I (bO k))
theorem jL (op:Int)(s:ByteArray)(n:Int)(w:M)(b:Tab w):Calls Pg 220 #[.agg #[J I op,Y s,J I n]] w λe j=>e=ZF (ZD (aH op s.size n))/\Below w.heap.size w j:=by
 by_cases h:1<=op/\op<=15;{obtain⟨k,rfl⟩:=Int.eq_ofNat_of_zero_le (show 0<=op by omega);obtain⟨h1,h2⟩:=h;obtain⟨f,i⟩:=b.2 k (by omega);by_cases c:(s.size:Int)<=aE k;{by_cases hn:0<=n;{have e:aH (k:Int) s.size n=decide (n<=bO k):=(by unfold aH;rw[Bool.eq_iff_iff,decide_eq_true_eq,decide_eq_true_eq];exact⟨λh=>h.2.2.2.2,λh=>⟨h1,h2,c,hn,h⟩⟩);rw[e];exact yK k s n _ _ w h1 h2 f i b.1 c hn};{have e:aH (k:Int) s.size n=ZA:=(by unfold aH;rw[decide_eq_false_iff_not];exact λh=>hn h.2.2.2.1);rw[e];exact yM k s n _ w h1 h2 f b.1 c (by omega)}};{have e:aH (k:Int) s.size n=ZA:=(by unfold aH;rw[decide_eq_false_iff_not];exact λh=>c h.2.2.1);rw[e];exact yN k s n _ w h1 h2 f b.1 (by omega)}};{have e:aH op s.size n=ZA:=(by unfold aH;rw[decide_eq_false_iff_not];exact λg=>h ⟨g.1,g.2.1⟩);rw[e];exact yO op s n w (by omega)}
def dC (f:Nat->Ins):Nat->Bool
 |0=>ZG
 |k+1=>dC f k && aH (f k).op (f k).s.size (f k).n
theorem rU{f:Nat->Ins}{k:Nat}(h:k<=n)(hn:dC f n=ZG):dC f k=ZG:=by
 induction n with
 |zero =>
  obtain rfl:k=0:=by omega
  exact hn
 |succ m b =>
  by_cases e:k=m+1;{subst e;exact hn};{simp only[dC,Bool.and_eq_true] at hn;exact b (by omega) hn.1}
theorem pJ{f:Nat->Ins}{k:Nat}(h:k<n)(b:aH (f k).op (f k).s.size (f k).n=ZA):dC f n=ZA:=by
 cases e:dC f n with
 |false=>rfl
 |true =>have h2:=rU (show k+1<=n by omega) e;simp[dC,b] at h2
def valid (f:Nat->Ins)(n:Nat):Bool:=dC f n && decide (1<=(n:Int)/\(n:Int)<=200)
theorem bP{f:Nat->Ins}(h:valid f n=ZG):dC f n=ZG/\1<=(n:Int)/\(n:Int)<=200:=by unfold valid at h;rw[Bool.and_eq_true,decide_eq_true_eq] at h;exact h
theorem gP{f:Nat->Ins}{k:Nat}(h:dC f n=ZG)(hk:k<n):aH (f k).op (f k).s.size (f k).n=ZG:=by have:=rU (show k+1<=n by omega) h;simp only[dC,Bool.and_eq_true] at this;exact this.2
theorem gi (b off n cap:Nat)(f:Nat->Ins)(w:M)(hn:n<=1048576)(hb:b<w.heap.size)(q:∀i,i<n->AtIns w b off i (f i))(x:∀i,i<n->(f i).s.size<=maxLen):Calls Pg 92 #[.agg #[Z (T (Q b off U)) n cap]] w λe r=>e=ZF (ZD (valid f n))/\Below w.heap.size w r:=by
 have B:=ae q;have z:=ae x;clear q x;go_enter func92,ntmps92;go_wp2;go_loopw [3] (λi wr=>∃k:Nat,k<=n/\i=J I k/\dC f k=ZG/\Below (w.heap.size+1) (w.alloc (N #[Z (T (Q b off U)) n cap] 43)) wr) (λi _=>n - (intOf i).toNat);case atStart=>exact⟨0,by omega,rfl,rfl,Below.refl _ _⟩
 case round =>
  obtain⟨k,hk,rfl,l,g⟩:=hrel;have ZR:=ae g;have y:=ae l;have u:A wr (Q w.heap.size 0 U)=T (Z (T (Q b off U)) n cap):=by rw[g.cell (p:=(Q w.heap.size 0 U)) (by simp)];simp
  have h:Hid (Below w.heap.size w wr):=((Below.refl _ _).alloc (Nat.le_refl _) _).trans (g.mono (by omega));have t:w.heap.size+1<=wr.heap.size:=by have:=g.size;simpa using this
  clear g l;by_cases c:k<n
  ·obtain⟨c0,c1,c2⟩:=(B k c).aa h hb;go_wp2_with fail;refine(iO _ _ _ _ (z k c)).mono ?_;rintro e r ⟨rfl,j⟩;have m:=ae j;clear j c0 c1 c2 u;cases hi:aH (f k).op (f k).s.size (f k).n with
   |false =>have o:=ae hi;clear hi;go_wp2;go_ret;refine⟨cG ?_,h.trans (m.mono h.size)⟩;simp[valid,pJ c o.out]
   |true =>have o:=ae hi;clear hi;go_wp2;exact⟨⟨k+1,by omega,by go_num,by simp[dC,y.out,o.out],ZR.trans (m.mono t)⟩,by simp[intOf];omega⟩
  ·have e:k=n:=by omega
   subst e;by_cases h1:1<=(k:Int)
   all_goals
    go_wp2;go_ret;refine⟨cG ?_,h⟩;rw[Bool.eq_iff_iff];simp[valid,y.out];try omega
theorem Tab.aa{b:M}(h:Tab w)(hb:Below B w b)(f:1<B):Tab b :=
 ⟨Nat.lt_of_lt_of_le h.1 hb.size,λk c=>⟨(hb.cell (p:=(Q 1 _ U)) f).trans (h.2 k c).1,(hb.cell (p:=(Q 1 _ U)) f).trans (h.2 k c).2⟩⟩
theorem mO (a:Option Addr)(n cap:Nat)(f:Nat->Ins)(w:M)(hn:n<=1048576)(h:(n:Int)<1∨200<(n:Int)):Calls Pg 167 #[.agg #[Z a n cap]] w λe b=>e=ZF (ZD (valid f n))/\Below w.heap.size w b:=by
 have e:valid f n=ZA:=by unfold valid;rw[show decide (1<=(n:Int)/\(n:Int)<=200)=ZA by simp;omega,Bool.and_false]
 rw[e];clear e;rcases h with h|h;all_goals
  go_enter func167,ntmps167;go_wp2;go_ret;exact⟨rfl,(Below.refl _ _).alloc (Nat.le_refl _) _⟩
theorem ts (b off n cap:Nat)(f:Nat->Ins)(w:M)(h1:1<=(n:Int))(h2:(n:Int)<=200)(hb:b<w.heap.size)(t:∀i,i<n->AtIns w b off i (f i))(p:Tab w):Calls Pg 167 #[.agg #[Z (T (Q b off U)) n cap]] w λe o=>e=ZF (ZD (valid f n))/\Below w.heap.size w o:=by
 have ZR:=ae t;have z:=ae p;have y:=p.1;have u:Hid (valid f n=dC f n):=by show valid f n=dC f n;unfold valid;rw[show decide (1<=(n:Int)/\(n:Int)<=200)=ZG by simp;omega,Bool.and_true]
 clear t p;go_enter func167,ntmps167;go_wp2;go_loopw [18] (λi wr=>∃k:Nat,k<=n/\i=J I k/\dC f k=ZG/\Below w.heap.size w wr) (λi _=>n - (intOf i).toNat);case atStart=>exact⟨0,by omega,rfl,rfl,(Below.refl _ _).alloc (Nat.le_refl _) _⟩
 case round =>
  obtain⟨k,hk,rfl,l,r⟩:=hrel;have c:=ae r;have x:=ae l;have g:w.heap.size<=wr.heap.size:=r.size;clear r l;by_cases h:k<n
  ·obtain⟨c0,c1,c2⟩:=(ZR k h).aa c hb;go_wp2_with fail;refine(jL _ _ _ _ (z.aa (c.alloc g _) y)).mono ?_;rintro e o ⟨rfl,j⟩;have m:Hid (Below w.heap.size w o):=(c.alloc g _).trans (j.mono (by simp;omega));clear j c0 c1 c2;cases hi:aH (f k).op (f k).s.size (f k).n with
   |false =>have q:=ae hi;clear hi;go_wp2;go_ret;refine⟨cG ?_,m⟩;rw[u.out,pJ h q.out]
   |true =>have q:=ae hi;clear hi;go_wp2;exact⟨⟨k+1,by omega,by go_num,by simp[dC,x.out,q.out],m⟩,by simp[intOf];omega⟩
  ·have e:k=n:=by omega
   subst e;go_wp2;go_ret;exact⟨cG (by rw[u.out,x.out]),c.out⟩
theorem tu (b off n cap:Nat)(f:Nat->Ins)(w:M)(hn:n<=1048576)(hb:b<w.heap.size)(c:∀i,i<n->AtIns w b off i (f i))(g:Tab w):Calls Pg 167 #[.agg #[Z (T (Q b off U)) n cap]] w λe j=>e=ZF (ZD (valid f n))/\Below w.heap.size w j:=by
 by_cases h:(n:Int)<1∨200<(n:Int)
 {exact mO _ n cap f w hn h};{exact ts b off n cap f w (by omega) (by omega) hb c g}
structure Only (b:Nat)(w w':M):Prop where
 os:w'.os=w.os
 tape:w'.tape=w.tape
 output:w'.output=w.output
 size:w.heap.size<=w'.heap.size
 block:∀k,k<w.heap.size->k≠b->w'.heap[k]?=w.heap[k]?
 ty:∀cs t fz,w.heap[b]?=T (N cs t fz)->∃cs',w'.heap[b]?=T (N cs' t fz)
theorem Only.refl (b:Nat)(w:M):Only b w w:=⟨rfl,rfl,rfl,Nat.le_refl _,λ_ _ _=>rfl,λc _ _ h=>⟨c,h⟩⟩
theorem ag{o:Obj}(h:w.heap[i]?=T o):i<w.heap.size:=by
 rcases Nat.lt_or_ge i w.heap.size with b|b;{exact b};{rw[Array.getElem?_eq_none b] at h;cases h}
theorem bW{j:Nat}{c:Array ZC}{fz:Nat × Nat}(h:w.heap[b]?=T (N c t fz))(v:ZC):(w.setCell (Q b j U) v).heap[b]?=T (N (c.setIfInBounds j v) t fz):=by simp only[World.setCell,Array.getElem?_modify,if_pos,h,Option.map_some];rfl
theorem Only.trans{u v:M}(h:Only b u v)(k:Only b v w):Only b u w :=
 ⟨k.os.trans h.os,k.tape.trans h.tape,k.output.trans h.output,Nat.le_trans h.size k.size,λi hi c=>(k.block i (Nat.lt_of_lt_of_le hi h.size) c).trans (h.block i hi c),λf t fz hb=>let ⟨cs1,h1⟩:=h.ty f t fz hb;k.ty cs1 t fz h1⟩
theorem Only.u (h:Below w.heap.size w c):Only b w c:=⟨h.os,h.tape,h.output,h.size,λi hi _=>h.block i hi,λf _ _ hb=>⟨f,(h.block b (ag hb)).trans hb⟩⟩
theorem Only.aa (h:Only b w c)(hB:B<=b)(hw:B<=w.heap.size):Below B w c:=⟨h.os,h.tape,h.output,h.size,λk hk=>h.block k (by omega) (by omega)⟩
theorem Only.cell (h:Only b w c)(k o:Nat)(f:k<w.heap.size)(hb:k≠b):A c (Q k o U)=A w (Q k o U):=World.cell?_of_block (w:=w) (a:=(Q k o U)) (h.block k f hb)
theorem ix{a:M}(h:Only b a w)(j:Nat)(v:ZC):Only b a (w.setCell (Q b j U) v) :=
 h.trans ⟨rfl,rfl,rfl,by simp[World.setCell],λk _ c=>Below.heap_setCell _ _ _ _ (by simpa using c),λ_ _ _ hb=>⟨_,bW hb v⟩⟩
theorem IP{P:Program}{fn:Func}{R:Ending->M->Prop}{a:Act}(b:fn.results=#[])(c:a.defers=[])(hR:R (ZF (.tuple #[])) w):bodyPost P fn R .ret a w :=
 bodyPost_ret (v:=.tuple #[]) (by simp[results,b]) c hR
structure Turn where
 over:Bool
 E:Int
 B:ByteArray
 ask:Bool
 e:ByteArray
 steps:Int
def Turn.v (t:Turn):ZC:=.agg #[ZD t.over,J I t.E,Y t.B,ZD t.ask,Y t.e,J I t.steps]
def AE:Turn:=⟨ZA,0,⟨#[]⟩,ZA,⟨#[]⟩,0⟩
structure Mst where
 S:Nat->ByteArray
 size:Nat
 place:Int
 steps:Int
 looks:Int
 t:Turn
def ba (k:Nat):Nat:=if k=2∨k=6∨k=8 then 2 else if k=0∨k=1∨k=10∨15<k then 0 else 1
def cB (k:Nat):Nat:=if k=7∨k=8 then 2 else if k=0∨k=9∨k=10∨k=11∨13<k then 0 else 1
def dK (s:ByteArray):Nat->Bool
 |0=>ZG
 |k+1=>dK s k && (match s.data[k]? with|some c=>decide (33<=c.toNat/\c.toNat<=126)|none=>ZA)
def aw (s:ByteArray):Bool:=decide (1<=s.size/\s.size<=60) && dK s s.size
theorem oe{k:Nat}(h:k<=n)(hn:dK s n=ZG):dK s k=ZG:=by
 induction n with
 |zero =>
  obtain rfl:k=0:=by omega
  exact hn
 |succ m b =>
  by_cases e:k=m+1;{subst e;exact hn};{simp only[dK,Bool.and_eq_true] at hn;exact b (by omega) hn.1}
theorem kM{k:Nat}(h:k<s.size):dK s (k+1)=(dK s k && decide (33<=s[k].toNat/\s[k].toNat<=126)):=by
 have e:s.data[k]?=T s[k]:=by rw[Array.getElem?_eq_getElem h];rfl
 rw[dK,e]
theorem gQ{k:Nat}(h:k<s.size)(hk:¬ (33<=s[k].toNat/\s[k].toNat<=126)):dK s s.size=ZA:=by
 cases e:dK s s.size with
 |false=>rfl
 |true =>have h2:=oe (show k+1<=s.size by omega) e;rw[kM h] at h2;simp at h2;omega
theorem t8 (s:ByteArray)(w:M)(F:Nat)(hF:(True/\F=109)∨F=69):Calls Pg F #[Y s] w λe m=>e=ZF (ZD (aw s))/\Below w.heap.size w m:=by
 by_cases h1:1<=(s.size:Int)/\(s.size:Int)<=60
 ·have g:Hid (aw s=dK s s.size):=by
   show aw s=dK s s.size;unfold aw;rw[show decide (1<=s.size/\s.size<=60)=ZG by simp;omega,Bool.true_and]
  obtain⟨h1,h2⟩:=h1;rcases hF with ⟨ZQ,rfl⟩|rfl;all_goals
   first|(guard_hyp ZQ;go_enter func109,ntmps109)|go_enter func69,ntmps69
   go_wp2;first|(guard_hyp ZQ;go_loopw [14] (λi wr=>∃k:Nat,k<=s.size/\i=J I k/\dK s k=ZG/\Below w.heap.size w wr) (λi _=>s.size - (intOf i).toNat))|go_loopw [3] (λi wr=>∃k:Nat,k<=s.size/\i=J I k/\dK s k=ZG/\Below w.heap.size w wr) (λi _=>s.size - (intOf i).toNat)
   case atStart=>exact⟨0,by omega,rfl,rfl,Below.refl _ _⟩
   case round =>
    obtain⟨k,hk,rfl,f,l⟩:=hrel;have c:=ae l;have j:=ae f;clear l f;by_cases b:k<s.size
    ·by_cases p1:33<=(s[k].toNat:Int)
     ·by_cases p2:(s[k].toNat:Int)<=126
      ·go_wp2
       exact⟨⟨k+1,by omega,by go_num,by rw[kM b,j.out];simp;omega,c⟩,by simp[intOf];omega⟩
      ·go_wp2
       go_ret;exact⟨cG (by rw[g.out,gQ b (by omega)]),c⟩
     ·go_wp2
      go_ret;exact⟨cG (by rw[g.out,gQ b (by omega)]),c⟩
    ·have e:k=s.size:=by omega
     subst e;go_wp2;go_ret;exact⟨cG (by rw[g.out,j.out]),c.out⟩
 ·rw[show aw s=ZA by unfold aw;rw[show decide (1<=s.size/\s.size<=60)=ZA by simp;omega,Bool.false_and]];by_cases h2:1<=(s.size:Int)
  ·have h3:¬ (s.size:Int)<=60:=λh=>h1 ⟨h2,h⟩;clear h1;rcases hF with ⟨ZQ,rfl⟩|rfl;all_goals
    first|(guard_hyp ZQ;go_enter func109,ntmps109)|go_enter func69,ntmps69
    go_wp2;go_ret;exact⟨rfl,Below.refl _ _⟩
  ·clear h1;rcases hF with ⟨ZQ,rfl⟩|rfl;all_goals
    first|(guard_hyp ZQ;go_enter func109,ntmps109)|go_enter func69,ntmps69
    go_wp2;go_ret;exact⟨rfl,Below.refl _ _⟩
abbrev ju (s:ByteArray)(w:M):=t8 s w _ (.inl ⟨trivial,rfl⟩)
abbrev dc (s:ByteArray)(w:M):=t8 s w _ (.inr rfl)
structure aK where
 has:Bool
 E:Int
 B:ByteArray
def AtReply (w:M)(b off i:Nat)(x:aK):Prop :=
 A w (Q b (off+i*3) U)=T (ZD x.has)/\A w (Q b (off+i*3+1) U)=T (J I x.E)/\A w (Q b (off+i*3+2) U)=T (Y x.B)
theorem AtReply.aa{x:aK}(h:AtReply w b off i x)(hb:Below B w f)(c:b<B):AtReply f b off i x :=
 ⟨(hb.cell (p:=(Q b _ U)) c).trans h.1,(hb.cell (p:=(Q b _ U)) c).trans h.2.1,(hb.cell (p:=(Q b _ U)) c).trans h.2.2⟩
def RowReply (w:M)(b off n:Nat)(f:Nat->aK):Prop:=b<w.heap.size/\∀i,i<n->AtReply w b off i (f i)
theorem RowReply.aa{f:Nat->aK}(h:RowReply w b off n f)(hb:Below B w c)(g:w.heap.size<=B):RowReply c b off n f :=
 ⟨Nat.lt_of_lt_of_le h.1 hb.size,λi hi=>(h.2 i hi).aa hb (Nat.lt_of_lt_of_le h.1 g)⟩
structure Source where
 e:ByteArray
 B:ByteArray
def AtSource (w:M)(b off i:Nat)(x:Source):Prop :=
 A w (Q b (off+i*2) U)=T (Y x.e)/\A w (Q b (off+i*2+1) U)=T (Y x.B)
theorem AtSource.aa{x:Source}(h:AtSource w b off i x)(hb:Below B w c)(f:b<B):AtSource c b off i x :=
 ⟨(hb.cell (p:=(Q b _ U)) f).trans h.1,(hb.cell (p:=(Q b _ U)) f).trans h.2⟩
def RowSource (w:M)(b off n:Nat)(f:Nat->Source):Prop:=b<w.heap.size/\∀i,i<n->AtSource w b off i (f i)
theorem RowSource.aa{f:Nat->Source}(h:RowSource w b off n f)(hb:Below B w c)(g:w.heap.size<=B):RowSource c b off n f :=
 ⟨Nat.lt_of_lt_of_le h.1 hb.size,λi hi=>(h.2 i hi).aa hb (Nat.lt_of_lt_of_le h.1 g)⟩
def SlSource (w:M)(a:Option Addr)(n:Nat)(f:Nat->Source):Prop:=n=0∨∃b off,a=T (Q b off U)/\RowSource w b off n f
theorem SlSource.aa{f:Nat->Source}(h:SlSource w a n f)(hb:Below B w c)(j:w.heap.size<=B):SlSource c a n f:=by
 rcases h with h|⟨b,off,i,g⟩
 {exact .inl h};{exact .inr ⟨b,off,i,g.aa hb j⟩}
theorem lI:(Pg.info? 142).map (λi=>(i.zero,i.size,i.bytes))=T (T (.agg #[Y ⟨#[]⟩,Y ⟨#[]⟩]),2,32):=by kernel_rfl
structure Target where
 e:ByteArray
 f:Nat
 H:Nat->Ins
def cT (x:Target):Prop:=x.f<=1048576
def AtTarget (w:M)(b off i:Nat)(x:Target):Prop :=
 A w (Q b (off+i*2) U)=T (Y x.e)/\(∃a cap,A w (Q b (off+i*2+1) U)=T (Z a x.f cap)/\SlIns w a x.f x.H)
theorem AtTarget.aa{g:M}{x:Target}(h:AtTarget w b off i x)(hb:Below B w g)(f:w.heap.size<=B)(j:b<w.heap.size):AtTarget g b off i x:=by obtain⟨l,⟨a0,c,m,r0⟩⟩:=h;refine⟨(hb.cell (p:=(Q b _ U)) (Nat.lt_of_lt_of_le j f)).trans l,⟨a0,c,(hb.cell (p:=(Q b _ U)) (Nat.lt_of_lt_of_le j f)).trans m,r0.aa hb f⟩⟩
def RowTarget (w:M)(b off n:Nat)(f:Nat->Target):Prop:=b<w.heap.size/\∀i,i<n->AtTarget w b off i (f i)
theorem RowTarget.aa{f:Nat->Target}(h:RowTarget w b off n f)(hb:Below B w c)(g:w.heap.size<=B):RowTarget c b off n f :=
 ⟨Nat.lt_of_lt_of_le h.1 hb.size,λi hi=>(h.2 i hi).aa hb g h.1⟩
def SlTarget (w:M)(a:Option Addr)(n:Nat)(f:Nat->Target):Prop:=n=0∨∃b off,a=T (Q b off U)/\RowTarget w b off n f
theorem SlTarget.aa{f:Nat->Target}(h:SlTarget w a n f)(hb:Below B w c)(j:w.heap.size<=B):SlTarget c a n f:=by
 rcases h with h|⟨b,off,i,g⟩
 {exact .inl h};{exact .inr ⟨b,off,i,g.aa hb j⟩}
theorem gR:(Pg.info? 146).map (λi=>(i.zero,i.size,i.bytes))=T (T (.agg #[Y ⟨#[]⟩,Z U 0 0]),2,40):=by kernel_rfl
def ua (w:M)(b off n:Nat)(f:Nat->ByteArray):Prop:=b<w.heap.size/\∀i,i<n->A w (Q b (off+i) U)=T (Y (f i))
theorem lJ:(Pg.info? 9).map (λi=>(i.zero,i.size,i.bytes))=T (T (Y ⟨#[]⟩),1,16):=by kernel_rfl
theorem yP (f:Nat->Ins):valid f 0=ZA:=by simp[valid]
theorem ub (a:Option Addr)(n cap:Nat)(f:Nat->Ins)(w:M)(hn:n<=1048576)(i:SlIns w a n f)(h:Tab w):Calls Pg 167 #[.agg #[Z a n cap]] w λe g=>e=ZF (ZD (valid f n))/\Below w.heap.size w g:=by
 rcases i with rfl|⟨b,off,rfl,c⟩
 {exact mO a 0 cap f w (by omega) (by simp)};{exact tu b off n cap f w hn c.1 c.2 h}
theorem tv (a:Option Addr)(cap:Nat)(f:Nat->Ins)(w:M):Calls Pg 92 #[.agg #[Z a 0 cap]] w λe b=>e=ZF (ZD (valid f 0))/\Below w.heap.size w b:=by
 rw[yP];have c:=ae ((Below.refl w.heap.size w).alloc (Nat.le_refl _) (N #[Z a 0 cap] 43));go_enter func92,ntmps92;go_wp2;go_loop [3] (λi=>i=J I 0) (λ_=>0);case atStart=>rfl
 case round =>subst hrel;go_wp2;go_ret;exact⟨rfl,c⟩
theorem jM (a:Option Addr)(n cap:Nat)(f:Nat->Ins)(w:M)(hn:n<=1048576)(j:SlIns w a n f)(h:∀i,i<n->(f i).s.size<=maxLen):Calls Pg 92 #[.agg #[Z a n cap]] w λe g=>e=ZF (ZD (valid f n))/\Below w.heap.size w g:=by
 rcases j with rfl|⟨b,off,rfl,c⟩
 {exact tv a cap f w};{exact gi b off n cap f w hn c.1 c.2 h}
structure Link where
 e:ByteArray
 ask:Bool
 has:Bool
 L:Int
def AtLink (w:M)(b off i:Nat)(x:Link):Prop :=
 A w (Q b (off+i*4) U)=T (Y x.e)/\A w (Q b (off+i*4+1) U)=T (ZD x.ask)/\A w (Q b (off+i*4+2) U)=T (ZD x.has)/\A w (Q b (off+i*4+3) U)=T (J I x.L)
theorem AtLink.aa{x:Link}(h:AtLink w b off i x)(hb:Below B w f)(c:b<B):AtLink f b off i x :=
 ⟨(hb.cell (p:=(Q b _ U)) c).trans h.1,(hb.cell (p:=(Q b _ U)) c).trans h.2.1,(hb.cell (p:=(Q b _ U)) c).trans h.2.2.1,(hb.cell (p:=(Q b _ U)) c).trans h.2.2.2⟩
def RowLink (w:M)(b off n:Nat)(f:Nat->Link):Prop:=b<w.heap.size/\∀i,i<n->AtLink w b off i (f i)
theorem RowLink.aa{f:Nat->Link}(h:RowLink w b off n f)(hb:Below B w c)(g:w.heap.size<=B):RowLink c b off n f :=
 ⟨Nat.lt_of_lt_of_le h.1 hb.size,λi hi=>(h.2 i hi).aa hb (Nat.lt_of_lt_of_le h.1 g)⟩
def SlLink (w:M)(a:Option Addr)(n:Nat)(f:Nat->Link):Prop:=n=0∨∃b off,a=T (Q b off U)/\RowLink w b off n f
theorem SlLink.aa{f:Nat->Link}(h:SlLink w a n f)(hb:Below B w c)(j:w.heap.size<=B):SlLink c a n f:=by
 rcases h with h|⟨b,off,i,g⟩
 {exact .inl h};{exact .inr ⟨b,off,i,g.aa hb j⟩}
theorem iy:(Pg.info? 91).map (λi=>(i.zero,i.size,i.bytes))=T (T (.agg #[Y ⟨#[]⟩,ZD ZA,ZD ZA,J I 0]),4,32):=by kernel_rfl
structure Deed where
 e:ByteArray
 m:Int
 E:Int
 B:ByteArray
 f:Nat
 H:Nat->Ins
 b:Nat
 D:Nat->Link
def fj (x:Deed):Prop:=x.e.size<=maxLen/\x.B.size<=maxLen/\((x.f:Int)<=9223372036854775807/\∀j,j<x.f->(x.H j).s.size<=maxLen)/\((x.b:Int)<=9223372036854775807/\∀j,j<x.b->(x.D j).e.size<=maxLen)
def cV (x:Deed):Prop:=x.f<=1048576/\x.b<=1048576
def AtDeed (w:M)(b off i:Nat)(x:Deed):Prop :=
 A w (Q b (off+i*6) U)=T (Y x.e)/\A w (Q b (off+i*6+1) U)=T (J I x.m)/\A w (Q b (off+i*6+2) U)=T (J I x.E)/\A w (Q b (off+i*6+3) U)=T (Y x.B)/\(∃a cap,A w (Q b (off+i*6+4) U)=T (Z a x.f cap)/\SlIns w a x.f x.H)/\(∃a cap,A w (Q b (off+i*6+5) U)=T (Z a x.b cap)/\SlLink w a x.b x.D)
theorem AtDeed.aa{l:M}{x:Deed}(h:AtDeed w b off i x)(hb:Below B w l)(c:w.heap.size<=B)(f:b<w.heap.size):AtDeed l b off i x:=by obtain⟨n,o,m,s,⟨a0,j,q,r0⟩,⟨a1,g,r,r1⟩⟩:=h;refine⟨(hb.cell (p:=(Q b _ U)) (Nat.lt_of_lt_of_le f c)).trans n,(hb.cell (p:=(Q b _ U)) (Nat.lt_of_lt_of_le f c)).trans o,(hb.cell (p:=(Q b _ U)) (Nat.lt_of_lt_of_le f c)).trans m,(hb.cell (p:=(Q b _ U)) (Nat.lt_of_lt_of_le f c)).trans s,⟨a0,j,(hb.cell (p:=(Q b _ U)) (Nat.lt_of_lt_of_le f c)).trans q,r0.aa hb c⟩,⟨a1,g,(hb.cell (p:=(Q b _ U)) (Nat.lt_of_lt_of_le f c)).trans r,r1.aa hb c⟩⟩
def RowDeed (w:M)(b off n:Nat)(f:Nat->Deed):Prop:=b<w.heap.size/\∀i,i<n->AtDeed w b off i (f i)
theorem RowDeed.aa{f:Nat->Deed}(h:RowDeed w b off n f)(hb:Below B w c)(g:w.heap.size<=B):RowDeed c b off n f :=
 ⟨Nat.lt_of_lt_of_le h.1 hb.size,λi hi=>(h.2 i hi).aa hb g h.1⟩
def SlDeed (w:M)(a:Option Addr)(n:Nat)(f:Nat->Deed):Prop:=n=0∨∃b off,a=T (Q b off U)/\RowDeed w b off n f
theorem SlDeed.aa{f:Nat->Deed}(h:SlDeed w a n f)(hb:Below B w c)(j:w.heap.size<=B):SlDeed c a n f:=by
 rcases h with h|⟨b,off,i,g⟩
 {exact .inl h};{exact .inr ⟨b,off,i,g.aa hb j⟩}
theorem fk:(Pg.info? 46).map (λi=>(i.zero,i.size,i.bytes))=T (T (.agg #[Y ⟨#[]⟩,J I 0,J I 0,Y ⟨#[]⟩,Z U 0 0,Z U 0 0]),6,96):=by kernel_rfl
def dw (n:Nat):Array ZC:=madeCells (Value.agg #[Y ⟨#[]⟩,J I 0,J I 0,Y ⟨#[]⟩,Z U 0 0,Z U 0 0]).cells (n*6)
theorem IQ (n:Nat)(hn:n<=1048576)(w:M):(Instr.makeSlice 35 (J I (n:Int)) (J I (n:Int))).run Pg w=.ok (Z (T (Q w.heap.size 0 U)) n n) (w.alloc (N (dw n) 46)):=by obtain⟨i,hi,hz⟩:=Option.map_eq_some_iff.1 fk;simp only[Prod.mk.injEq] at hz;obtain⟨h1,h2,h3⟩:=hz;have h:=run_make (P:=Pg) w 35 46 i _ underlying35 hi h1 I I n n (by omega) (Int.le_refl _) (by rw[h3];omega) (by omega);rw[h2] at h;simpa[dw] using h
def eu (f:Nat->Deed)(p:Nat)(l:Link):Bool :=
 aw l.e && (if l.ask=ZG then !l.has && decide (0<=l.L) && decide (l.L<(p:Int)) && ((f l.L.toNat).e.toList == l.e.toList) else decide (l.L=0))
def bN (f:Nat->Deed)(p:Nat)(x:Deed):Nat->Bool
 |0=>ZG
 |k+1=>bN f p x k && eu f p (x.D k)
def aY (x:Deed):Bool:=decide (x.E=0) && decide (x.f=0) && decide (x.b=0)
def cH (f:Nat->Deed)(p:Nat)(x:Deed):Bool:=decide (0<=x.E) && decide (x.E<=5) && valid x.H x.f && decide (x.b<=200) && bN f p x x.b
def kindOk (f:Nat->Deed)(p:Nat)(x:Deed):Bool :=
 if x.m=1 then aY x else if x.m=2 then aY x && decide (x.B.size=0) else if x.m=3 then cH f p x else ZA
def bi (f:Nat->Deed)(p:Nat):Bool:=aw (f p).e && decide ((f p).B.size<=2000) && kindOk f p (f p)
def bc (f:Nat->Deed)(p:Nat):Nat->Bool
 |0=>ZG
 |k+1=>bc f p k && !((f k).e.toList == (f p).e.toList)
def aM (g:Nat->Bool):Nat->Int
 |0=>-1
 |k+1=>if aM g k=-1 then (if g k=ZG then -1 else k) else aM g k
theorem fD (h:∀i,i<n->g i=ZG):aM g n=-1:=by
 induction n with
 |zero=>rfl
 |succ k b =>rw[aM,if_pos (b λi hi=>h i (by omega)),if_pos (h k (by omega))]
theorem fP (hi:i<n)(b:g i=ZA)(h:∀j,j<i->g j=ZG):aM g n=i:=by
 induction n with
 |zero=>omega
 |succ k c =>
  rw[aM];by_cases e:i=k;{subst e;rw[if_pos (fD h),if_neg (by rw[b];simp)]};{have:=c (by omega);rw[this,if_neg (by omega)]}
theorem fQ (h:aM g n=-1):∀i,i<n->g i=ZG:=by
 induction n with
 |zero=>intro i hi;omega
 |succ k b =>
  rw[aM] at h;split at h
  ·rename_i h1;intro i hi;by_cases e:i=k
   ·subst e;cases hg:g i with
    |true=>rfl
    |false=>rw[hg] at h;simp at h
   {exact b h1 i (by omega)}
  {rename_i h1;exact absurd h h1}
theorem fR{f:Nat->Deed}{x:Deed}(h:bN f p x n=ZG):∀i,i<n->eu f p (x.D i)=ZG:=by
 induction n with
 |zero=>intro i hi;omega
 |succ k b =>
  simp only[bN,Bool.and_eq_true] at h;intro i hi;by_cases e:i=k;{subst e;exact h.2};{exact b h.1 i (by omega)}
def lks (b:Nat->Nat->(Nat->Bool)->(Nat->Bool) × List (Nat × Nat))(x:Deed)(d:Nat)(s:Nat->Bool):Nat->(Nat->Bool) × List (Nat × Nat)
 |0=>(s,[])
 |j+1=>if (x.D j).ask=ZG/\(lks b x d s j).1 (x.D j).L.toNat=ZA then ((b (x.D j).L.toNat (d+1) (lks b x d s j).1).1,(lks b x d s j).2++(b (x.D j).L.toNat (d+1) (lks b x d s j).1).2) else lks b x d s j
def put (s:Nat->Bool)(p:Nat):Nat->Bool:=λq=>q == p || s q
def lst (f:Nat->Deed):Nat->Nat->Nat->(Nat->Bool)->(Nat->Bool) × List (Nat × Nat)
 |0,_,_,s=>(s,[])
 |k+1,p,d,s=>(put (lks (lst f k) (f p) d s (f p).b).1 p,(lks (lst f k) (f p) d s (f p).b).2++[(p,d)])
def gj (f:Nat->Deed)(n:Nat):Prop:=∀p,p<n->∀i,i<(f p).b->((f p).D i).ask=ZG->((f p).D i).L.toNat<p/\0<=((f p).D i).L
def cnt (s:Nat->Bool):Nat->Nat
 |0=>0
 |k+1=>cnt s k+(if s k=ZG then 1 else 0)
theorem IW (s:Nat->Bool)(n:Nat):cnt s n<=n:=by
 induction n with
 |zero=>simp[cnt]
 |succ k ih=>rw[cnt];split<;>omega
theorem AG{s b:Nat->Bool}(h:∀q,q<n->s q=b q):cnt s n=cnt b n:=by
 induction n with
 |zero=>rfl
 |succ k c=>rw[cnt,cnt,c λq hq=>h q (by omega),h k (by omega)]
theorem GH{s:Nat->Bool}(hp:p<n)(h:s p=ZA):cnt (put s p) n=cnt s n+1:=by
 induction n with
 |zero=>omega
 |succ k b =>
  rw[cnt,cnt];by_cases e:p=k
  ·subst e;have h1:cnt (put s p) p=cnt s p:=AG λq hq=>by simp[put];omega
   simp[h1,put,h]
  ·have h1:put s p k=s k:=by simp[put];omega
   rw[b (by omega),h1];omega
structure Lsd (n p d:Nat)(s:Nat->Bool)(r:(Nat->Bool) × List (Nat × Nat)):Prop where
 far:∀q,p<q->r.1 q=s q
 old:∀q,s q=ZG->r.1 q=ZG
 num:cnt r.1 n=cnt s n+r.2.length
 last:∃o,r.2=o++[(p,d)]
 le:∀x∈r.2,x.1<=p
theorem xK {f:Nat->Deed}{n k p d:Nat}{s:Nat->Bool}(i:gj f n)(o:p<n)(m:∀q d s,q<p->s q=ZA->Lsd n q d s (lst f k q d s)):∀j,j<=(f p).b->(∀q,p<=q->(lks (lst f k) (f p) d s j).1 q=s q)/\(∀q,s q=ZG->(lks (lst f k) (f p) d s j).1 q=ZG)/\cnt (lks (lst f k) (f p) d s j).1 n=cnt s n+(lks (lst f k) (f p) d s j).2.length/\∀x∈(lks (lst f k) (f p) d s j).2,x.1<p
 |0,_=>⟨λ_ _=>rfl,λ_ h=>h,by simp[lks],by simp[lks]⟩
 |j+1,hj=>by
  obtain⟨h1,h2,h3,h4⟩:=xK (d:=d) (s:=s) i o m j (by omega);rw[lks];split
  ·rename_i l
   have r:=(i p o j (by omega) l.1).1;have g:=m _ (d+1) _ r l.2;refine⟨λq c=>(g.far q (by omega)).trans (h1 q c),λq c=>g.old q (h2 q c),?_,λx b=>?_⟩
   ·show cnt (lst f k _ (d+1) _).1 n=_
    rw[g.num,h3,List.length_append];omega
   ·rcases List.mem_append.1 b with b|b
    ·exact h4 x b
    ·have:=g.le x b
     omega
  ·exact⟨h1,h2,h3,h4⟩
theorem xL {f:Nat->Deed}{n:Nat}(i:gj f n):∀k p d s,p<k->p<n->s p=ZA->Lsd n p d s (lst f k p d s)
 |0,_,_,_,h,_,_=>absurd h (Nat.not_lt_zero _)
 |k+1,p,d,s,hk,hn,c=>by
  obtain⟨h1,h2,h3,h4⟩:=xK (d:=d) (s:=s) i hn (λq d s g c=>xL i k q d s (by omega) (by omega) c) (f p).b (Nat.le_refl _);have j:=(h1 p (Nat.le_refl _)).trans c;refine⟨λq g=>?_,λq g=>?_,?_,⟨_,rfl⟩,λx b=>?_⟩
  ·show put _ p q=s q
   rw[put,h1 q (by omega)];simp;omega
  ·show put _ p q=ZG
   rw[put,h2 q g];simp
  ·show cnt (put _ p) n=_
   rw[GH hn j,h3];simp[lst,List.length_append];omega
  ·rcases List.mem_append.1 b with b|b
   ·exact Nat.le_of_lt (h4 x b)
   ·simp at b
    subst b;exact Nat.le_refl _
theorem xM {f:Nat->Deed}{n:Nat}(c:gj f n):∀k p d s q,p<n->p<q->lst f k p d (put s q)=(put (lst f k p d s).1 q,(lst f k p d s).2)
 |0,_,_,_,_,_,_=>rfl
 |k+1,p,d,s,q,hn,hq=>by
  have g:∀j,j<=(f p).b->lks (lst f k) (f p) d (put s q) j=(put (lks (lst f k) (f p) d s j).1 q,(lks (lst f k) (f p) d s j).2):=by
   intro j;induction j with
   |zero=>intro _;rfl
   |succ j i =>
    intro hj;have e:=i (by omega);rw[lks,lks,e];by_cases b:((f p).D j).ask=ZG
    ·have ha:=(c p hn j (by omega) b).1
     have l:put (lks (lst f k) (f p) d s j).1 q ((f p).D j).L.toNat=(lks (lst f k) (f p) d s j).1 ((f p).D j).L.toNat:=by simp[put];omega
     simp only[l,b,true_and];split
     ·rw[xM c k _ (d+1) _ q (by omega) (by omega)]
     ·rfl
    ·rw[if_neg (λh=>b h.1),if_neg (λh=>b h.1)]
  have e:=g (f p).b (Nat.le_refl _);rw[lst,lst,e];simp only[Prod.mk.injEq,and_true];funext x;simp only[put];cases h1:x == p<;>cases h2:x == q<;>simp
def bA:Nat->List (Nat × Nat)->Int
 |_,[]=>-1
 |i,x::xs=>if x.1=i then bA (i+1) xs else i
def aZ (f:Nat->Deed):List (Nat × Nat)->Int
 |[]=>-1
 |x::xs=>if (f x.1).m=3/\60<=x.2 then x.1 else aZ f xs
def aC (f:Nat->Deed)(n:Nat):List (Nat × Nat):=(lst f n (n - 1) 0 (λ_=>ZA)).2
def eV (f:Nat->Deed)(n:Nat):Int × Int :=
 if n=0∨400<n then (1,0) else
 if aM (bi f) n≠-1 then (2,aM (bi f) n) else
 if aM (λp=>bc f p p) n≠-1 then (3,aM (λp=>bc f p p) n) else
 if bA 0 (aC f n)≠-1 then (4,bA 0 (aC f n)) else
 if aZ f (aC f n)≠-1 then (5,aZ f (aC f n)) else (0,0)
theorem jN{f:Nat->Deed}(h:aM (bi f) n=-1):gj f n:=by
 intro p c i hi b;have h1:=fQ h p c;simp only[bi,Bool.and_eq_true,kindOk] at h1;obtain⟨_,h2⟩:=h1;split at h2;{simp[aY] at h2;omega};{split at h2;{simp[aY] at h2;omega};{split at h2;{simp only[cH,Bool.and_eq_true] at h2;have h3:=fR h2.2 i hi;simp only[eu,b,if_true,Bool.and_eq_true,decide_eq_true_eq] at h3;omega};{cases h2}}}
theorem wI (s:ByteArray)(w:M):Calls Pg 109 #[Y s] w λe l=>e=ZF (ZD (aw s))/\l=w:=by
 by_cases h1:1<=(s.size:Int)
 ·by_cases h2:(s.size:Int)<=60
  ·have g:Hid (aw s=dK s s.size):=by
    show aw s=dK s s.size;unfold aw;rw[show decide (1<=s.size/\s.size<=60)=ZG by simp;omega,Bool.true_and]
   go_enter func109,ntmps109;go_wp2;go_loopw [14] (λi wr=>∃k:Nat,k<=s.size/\i=J I k/\dK s k=ZG/\wr=w) (λi _=>s.size - (intOf i).toNat);case atStart=>exact⟨0,by omega,rfl,rfl,rfl⟩
   case round =>
    obtain⟨k,hk,rfl,f,j⟩:=hrel;have c:=ae j;have h:=ae f;clear j f;by_cases b:k<s.size
    ·by_cases p1:33<=(s[k].toNat:Int)
     {by_cases p2:(s[k].toNat:Int)<=126;{go_wp2;exact⟨⟨k+1,by omega,by go_num,by rw[kM b,h.out];simp;omega,c⟩,by simp[intOf];omega⟩};{go_wp2;go_ret;exact⟨cG (by rw[g.out,gQ b (by omega)]),c⟩}};{go_wp2;go_ret;exact⟨cG (by rw[g.out,gQ b (by omega)]),c⟩}
    ·have e:k=s.size:=by omega
     subst e;go_wp2;go_ret;exact⟨cG (by rw[g.out,h.out]),c.out⟩
  {have e:aw s=ZA:=(by unfold aw;rw[show decide (1<=s.size/\s.size<=60)=ZA by simp;omega,Bool.false_and]);rw[e];clear e;go_enter func109,ntmps109;go_wp2;go_ret;exact⟨rfl,rfl⟩}
 {have e:aw s=ZA:=(by unfold aw;rw[show decide (1<=s.size/\s.size<=60)=ZA by simp;omega,Bool.false_and]);rw[e];clear e;go_enter func109,ntmps109;go_wp2;go_ret;exact⟨rfl,rfl⟩}
def fnv (z:Int)(c:UInt8):Int:=IntKind.u64.wrap (bits BinOp.xor IntKind.u64 z (IntKind.u64.wrap (c.toNat:Int))*1099511628211)
def sumTo (s:ByteArray):Nat->Int
 |0=>14695981039346656037
 |k+1=>fnv (sumTo s k) (s.data.toList.getD k 0)
theorem lK (s:ByteArray)(k:Nat):0<=sumTo s k/\sumTo s k<=18446744073709551615:=by
 cases k with
 |zero=>exact⟨(by decide:(0:Int)<=14695981039346656037),(by decide:(14695981039346656037:Int)<=18446744073709551615)⟩
 |succ k =>show 0<=fnv _ _/\fnv _ _<=_;unfold fnv;rw[IntKind.wrap_u64];omega
theorem pK (s:ByteArray)(k:Nat)(h:k<s.size):sumTo s (k+1)=IntKind.u64.wrap (bits BinOp.xor IntKind.u64 (sumTo s k) (IntKind.u64.wrap (s[k].toNat:Int))*1099511628211):=by
 have e:s.data.toList.getD k 0=s[k]:=by rw[List.getD_eq_getElem?_getD];have h2:k<s.data.size:=h;rw[Array.getElem?_toList,Array.getElem?_eq_getElem h2];rfl
 rw[sumTo,fnv,e]
theorem GI (s:ByteArray)(w:M)(hs:(s.size:Int)<=2097152):Calls Pg 134 #[Y s] w λe h=>e=ZF (J .u64 (sumTo s s.size))/\h=w:=by
 go_enter func134,ntmps134;go_wp2;go_loop [3,7] (λc i=>∃(k:Nat) (z:Int),k<=s.size/\0<=z/\z<=18446744073709551615/\Hid (z=sumTo s k)/\c=J .u64 z/\i=J I k) (λ_ i=>s.size - (intOf i).toNat);case atStart=>exact⟨0,14695981039346656037,by omega,by omega,by omega,rfl,rfl,rfl⟩
 case round =>
  obtain⟨k,z,hk,hz0,hz1,b,rfl,rfl⟩:=hrel;by_cases g:k<s.size
  ·have j:Hid (IntKind.u64.wrap (bits BinOp.xor IntKind.u64 z (IntKind.u64.wrap (s[k].toNat:Int))*1099511628211)=sumTo s (k+1)):=by show _=_;rw[b.out];exact(pK s k g).symm
   have f:=ae (lK s (k+1));go_wp2;rw[j.out];exact⟨⟨k+1,_,by omega,f.out.1,f.out.2,rfl,rfl,by go_num⟩,by simp[intOf];omega⟩
  ·obtain rfl:k=s.size:=by omega
   go_wp2;go_ret;exact⟨by rw[<-b.out];rfl,by rfl⟩
def TabW (w:M):Prop:=∀k:Nat,k<16->A w (Q 1 (k*5) U)=T (Y ⟨(word k).toArray⟩)
theorem TabW.aa{b:M}(h:TabW w)(hb:Below B w b)(f:1<B):TabW b :=
 λk c=>(hb.cell (p:=(Q 1 _ U)) f).trans (h k c)
def mP (x y:Ins):Bool:=x.op == y.op && x.s.toList == y.s.toList && x.n == y.n
def fm (f g:Nat->Ins):Nat->Bool
 |0=>ZG
 |k+1=>fm f g k && mP (f k) (g k)
def iP (f g:Nat->Ins)(n m:Nat):Bool:=decide (n=m) && fm f g n
theorem pL{f g:Nat->Ins}{k:Nat}(h:k<=n)(hn:fm f g n=ZG):fm f g k=ZG:=by
 induction n with
 |zero =>
  obtain rfl:k=0:=by omega
  exact hn
 |succ m b =>
  by_cases e:k=m+1;{subst e;exact hn};{simp only[fm,Bool.and_eq_true] at hn;exact b (by omega) hn.1}
theorem wJ{f g:Nat->Ins}{k:Nat}(h:k<n)(b:mP (f k) (g k)=ZA):fm f g n=ZA:=by
 cases e:fm f g n with
 |false=>rfl
 |true =>have h2:=pL (show k+1<=n by omega) e;simp[fm,b] at h2
