import Derived.Test.YtpmnbjkjpnclaaaGreatDoorProg
import Derived.WalkKit
import Derived.WalkSpells
import Derived.WalkLawsBesides
import Derived.Deep.OwnRows
import Derived.Deep.RegionWith
import Derived.Deep.QuietTactic
import Derived.BigQuiet
set_option maxHeartbeats 1000000
open Go renaming Addr.mk->Q,Value.slice->Z,Value.string->U,Value.int->N,Value.bool->ZD,Value.agg->ZH,Obj.cells->J,IntKind.i64->I,World->M,Value->ZC,TypeId->ZI,Ending.returned->ZF,World.cell?->A,Proofs.Tryz.prog->Pg
open Option renaming none->Y,some->T
open Bool renaming false->ZA,true->ZG
namespace Go.Proofs.YtpmnbjkjpnclaaaGreatDoor.Vp
open Tryz RowKit
variable {w c W f:M}{n B b off i p:Nat}{s:ByteArray}{a:Option Addr}{t:ZI}{P:Nat->Prop}{g:Nat->Bool}
theorem lj{a c:Nat}(h:a<b)(g:b<=c):a<c:=Nat.lt_of_lt_of_le h g
theorem q9 (w:M):Below w.heap.size w w:=Below.refl _ _
theorem br:Below B w w:=Below.refl _ _
abbrev sq:=@World.cell?_setCell_other
abbrev qh:=@Below.heap_setCell
abbrev bp:=@bodyPost_ret
abbrev gq:=@List.getElem?_eq_getElem
abbrev cq:=@World.cell?_of_block
abbrev bg:=@Below.grown
abbrev gz:=@List.getElem_mem
abbrev nj:=@List.not_mem_nil
abbrev mq:=@List.mem_cons_of_mem
abbrev cM:=@List.length_append
abbrev dB:=@Below.refl
abbrev eL:=@List.length_cons
abbrev eT:=@Array.getElem?_eq_some_iff
abbrev gM:=@if_neg
abbrev nD:=@List.mem_singleton
abbrev nL:=@heap_alloc_new
abbrev nX:=@List.length_nil
abbrev n6:=@Nat.le_refl
abbrev n8:=@List.getElem?_eq_some_iff
abbrev p6:=@if_pos
abbrev p7:=@Nat.le_trans
abbrev p8:=@List.mem_append
abbrev p9:=@IntKind.wrap_i64
abbrev wA:=@congrArg
abbrev zA:=@Bool.and_eq_true
abbrev z8:=@decide_eq_true_eq
abbrev AI:=@Nat.lt_succ_self
abbrev AP:=@Int.eq_ofNat_of_zero_le
abbrev AT:=@List.mem_cons
abbrev A9:=@World.ownsRow_nil
abbrev BC:=@Option.some.inj
abbrev BG:=@ByteArray.toList_eq
abbrev BM:=@below_drewN
abbrev BO:=@List.flatMap_append
abbrev BS:=@wpList_append_own
abbrev CP:=@Array.getElem?_modify
abbrev CV:=@List.size_toArray
abbrev CX:=@World.cell?_setCell_same'
abbrev DN:=@List.map_append
abbrev DW:=@List.length_singleton
abbrev E4:=@Nat.zero_le
abbrev FM:=@Nat.zero_add
abbrev F3:=@underlying9
abbrev F6:=@Nat.le_succ
abbrev GC:=@List.length_pos_iff
abbrev GD:=@Nat.lt_of_lt_of_le
abbrev HU:=@Lib.cell_of_heap
abbrev IA:=@List.getD_eq_getElem?_getD
abbrev IB:=@underlying30
abbrev IH:=@ByteArray.size_append
abbrev IN:=@List.cons_append
abbrev IS:=@underlying22
abbrev IU:=@List.take_of_length_le
abbrev IX:=@List.getElem?_append_right
abbrev JN:=@World.frozen?_of_block
abbrev KK:=@List.flatMap_cons
abbrev LB:=@List.length_set
abbrev LD:=@List.mem_of_getElem?
abbrev LK:=@List.length_drop
abbrev LN:=@Prod.mk.injEq
abbrev LY:=@List.nil_append
abbrev L8:=@Array.getElem?_toList
abbrev N5:=@underlying5
abbrev OB:=@info_parts
abbrev OD:=@UInt8.toNat_ofNat'
abbrev OH:=@List.getElem?_map
abbrev OJ:=@Value.slice.injEq
abbrev ON:=@ByteArray.ext
abbrev OP:=@List.getElem?_append_left
abbrev OQ:=@Option.map_eq_some_iff
abbrev OR:=@List.length_take
abbrev OT:=@List.getElem?_eq_none
abbrev OU:=@Option.some.injEq
abbrev OV:=@List.append_assoc
abbrev PC:=@Lib.frozen_of_heap
abbrev PD:=@List.range_succ
abbrev PE:=@Lib.byteCells_length
abbrev PF:=@underlying35
abbrev PH:=@decide_eq_false_iff_not
abbrev PI:=@List.mem_or_eq_of_mem_set
abbrev PJ:=@List.extract_eq_take_drop
abbrev PK:=@underlying3
abbrev PL:=@List.mem_range
abbrev PM:=@List.pairwise_append
abbrev PO:=@ByteArray.data_extract
abbrev PQ:=@List.take_append_drop
abbrev PR:=@Nat.lt_or_ge
abbrev PS:=@Nat.not_lt_zero
abbrev PT:=@List.length_eq_zero_iff
abbrev PU:=@List.map_cons
abbrev PV:=@List.pairwise_iff_getElem
abbrev PX:=@List.map_nil
abbrev P0:=@run_convert_bytes_back
abbrev P3:=@World.ownsRow_made
abbrev P6:=@Nat.add_zero
abbrev P7:=@List.getElem?_set_self
abbrev P9:=@List.mem_flatMap
abbrev QB:=@Array.length_toList
abbrev QC:=@Nat.le_of_lt
abbrev QD:=@Below.heap_setCell
abbrev QE:=@Array.toList_extract
abbrev QG:=@Array.replicate_succ
abbrev QH:=@Array.replicate_zero
abbrev QI:=@underlying125
abbrev QJ:=@List.mem_append_left
abbrev QK:=@Array.getElem?_eq_none
abbrev QN:=@List.append_toArray
abbrev QO:=@of_decide_eq_true
abbrev QP:=@underlying25
abbrev QR:=@heap_alloc_old
abbrev QS:=@zeroValue3
abbrev QU:=@List.getElem?_set_ne
abbrev QV:=@Int.tmod_eq_emod_of_nonneg
abbrev QW:=@List.take_succ_eq_append_getElem
abbrev QX:=@List.mem_map
abbrev QY:=@Array.toList_setIfInBounds
abbrev QZ:=@Array.ext'
abbrev Q0:=@List.push_toArray
abbrev Q2:=@underlying44
abbrev Q3:=@Nat.min_eq_left
abbrev Q9:=@List.length_map
abbrev RB:=@List.drop_eq_getElem_cons
abbrev RC:=@or_false
abbrev RH:=@List.mem_append_right
abbrev RJ:=@ntmps214
abbrev RK:=@List.getElem?_of_mem
abbrev RP:=@underlying41
abbrev RQ:=@underlying24
abbrev RU:=@zeroValue9
abbrev RV:=@zeroValue5
abbrev RY:=@results156
abbrev RZ:=@Lib.OthersKept.refl
abbrev SD:=@ByteArray.size_extract
abbrev SE:=@func214
abbrev SF:=@World.ownsRow.lt
abbrev SH:=@underlying4
abbrev SJ:=@underlying321
abbrev SN:=@List.set_append_right
abbrev SS:=@List.length_replicate
abbrev SU:=@List.findIdx?_eq_some_iff_getElem
abbrev SV:=@List.findIdx?_eq_none_iff
abbrev SW:=@Bool.eq_iff_iff
abbrev SY:=@UInt8.toNat_inj
abbrev TA:=@results130
abbrev TC:=@Result.andThen_ok
abbrev TD:=@sizeOf5
abbrev TF:=@Below.drew
abbrev TG:=@List.append_inj'
abbrev TH:=@Bool.false_eq_true
abbrev TI:=@sizeOf3
abbrev TJ:=@sizeOf9
abbrev TK:=@underlying215
abbrev TM:=@true_and
abbrev TN:=@IntKind.wrap_u8
abbrev TO:=@Oper.semAt_some
abbrev TP:=@zeroValue4
abbrev TQ:=@Oper.upon_value
abbrev TT:=@results213
abbrev TU:=@Value.slice.inj
abbrev TV:=@results106
abbrev TW:=@World.var?_cell
abbrev TX:=@Addr.mk.injEq
abbrev TY:=@ntmps301
abbrev TZ:=@List.countP_mono_left
abbrev T0:=@List.countP_le_length
abbrev T1:=@List.take_add_one
abbrev T3:=@List.ext_getElem?
abbrev T8:=@Nat.mod_lt
abbrev T9:=@Below.alloc
abbrev UA:=@List.exists_cons_of_ne_nil
abbrev UB:=@Array.getElem?_append_left
abbrev UC:=@isAgg3
abbrev UD:=@isAgg9
abbrev UE:=@isAgg5
abbrev UF:=@results33
abbrev UG:=@results34
abbrev UH:=@List.map_toArray
abbrev UI:=@underlying0
abbrev UJ:=@zeroValue22
abbrev UK:=@List.cons_ne_nil
abbrev UL:=@func301
abbrev UM:=@Array.getElem?_eq_getElem
abbrev UN:=@Classical.byContradiction
abbrev UO:=@Decidable.byContradiction
abbrev UR:=@World.ownsRow.cells
abbrev US:=@List.getElem_of_mem
abbrev UT:=@Int.toNat_of_nonneg
abbrev UU:=@Bool.and_true
abbrev UV:=@Bool.true_and
abbrev UW:=@ntmps109
abbrev UX:=@Option.map_some
abbrev UY:=@heap_alloc2_new
abbrev UZ:=@zeroValue0
abbrev U0:=@List.set_cons_succ
abbrev U2:=@underlying207
abbrev U3:=@underlying260
abbrev U4:=@underlying309
abbrev U5:=@underlying203
abbrev U6:=@List.filter_append
abbrev U7:=@List.getElem?_cons_succ
abbrev U8:=@List.pairwise_singleton
abbrev U9:=@func109
abbrev VA:=@Nat.lt_of_succ_lt
abbrev VB:=@callsIn_wide
abbrev VC:=@zeroValue215
abbrev VE:=@func195
abbrev VF:=@sizeOf4
abbrev VG:=@underlying20
abbrev VH:=@zeroValue260
abbrev VJ:=@zeroValue309
abbrev VK:=@UInt8.not_lt
abbrev VL:=@List.drop_eq_nil_of_le
abbrev VM:=@results35
abbrev VN:=@List.set_set
abbrev VO:=@World.frozen?_setCell
abbrev VQ:=@ownsRow_setCell_other
abbrev VR:=@ownsRow_setCell_below
abbrev VT:=@List.not_mem_nil
abbrev VU:=@Nat.succ_le_succ
abbrev VV:=@zeroValue20
abbrev VW:=@List.flatMap_map
abbrev VX:=@List.getElem_map
abbrev VY:=@dif_pos
abbrev VZ:=@List.take_set
abbrev V4:=@callsIn_of_wp
abbrev V5:=@sizeOf22
abbrev V8:=@List.all_cons
abbrev WE:=@World.cell?_of_block
abbrev WF:=@List.set_append_left
abbrev WG:=@List.mem_of_mem_take
abbrev WH:=@isAgg4
abbrev WJ:=@List.prefix_rfl
abbrev WK:=@List.append_nil
abbrev WM:=@List.map_congr_left
abbrev WN:=@List.dropWhile_cons
abbrev WO:=@Sem.run_bind
abbrev WP:=@Sem.run_pure
abbrev WQ:=@Nat.zero_mul
abbrev WS:=@Ne.symm
abbrev WT:=@sizeOf0
abbrev WU:=@isAgg22
abbrev WV:=@List.all_nil
abbrev WW:=@if_false
abbrev WX:=@underlying151
abbrev WY:=@underlying281
abbrev WZ:=@List.prefix_append
abbrev XB:=@grownCap_le_maxLen
abbrev XC:=@List.getElem?_take
abbrev XD:=@underlying127
abbrev XE:=@sizeOf215
abbrev XF:=@underlying211
abbrev XG:=@sizeOf260
abbrev XH:=@sizeOf309
abbrev XI:=@underlying338
abbrev XJ:=@underlying370
abbrev XK:=@isAgg0
abbrev XL:=@ntmps145
abbrev XM:=@ntmps220
abbrev XO:=@ntmps210
abbrev XP:=@Lib.alloc_old
abbrev XQ:=@isAgg215
abbrev XR:=@sizeOf20
abbrev XS:=@isAgg260
abbrev XU:=@isAgg309
abbrev XV:=@ntmps195
abbrev XX:=@ntmps282
abbrev X5:=@Sum.inl.injEq
abbrev YA:=@bne_iff_ne
abbrev YC:=@func5
theorem ly:n<=n:=Nat.le_refl n
theorem ae{p:Prop}(h:p):Hid p:=h
theorem nzL{c:Type}:(∀(l:List c) (i:Nat) (a:c),l.toArray.setIfInBounds i a=(l.set i a).toArray)/\(∀(a b:c) (l:List c),(a::l).set 0 b=b::l)/\∀(a b:c) (l:List c) (i:Nat),(a::l).set (i+1) b=a::l.set i b :=
 ⟨λ_ _ _=>List.setIfInBounds_toArray ..,λ_ _ _=>rfl,λ_ _ _ _=>rfl⟩
theorem Ka (hb:Below W.heap.size W c):(∀b o,b<W.heap.size->A c (Q b o Y)=A W (Q b o Y))/\(∀b o,b<W.heap.size->c.frozen? (Q b o Y)=W.frozen? (Q b o Y)) :=
 ⟨λb o h=>hb.cell (p:=(Q b o Y)) h,λb o h=>hb.frozen (p:=(Q b o Y)) h⟩
theorem cell_far (w:M)(p a:Addr)(v:ZC)(h:p.block≠a.block):(w.setCell p v).cell? a=w.cell? a :=
 World.cell?_of_block (w:=w) (a:=a) (Below.heap_setCell w p v a.block (λe=>h e.symm))
theorem cG{a b:Bool}(h:a=b):Ending.returned (ZD a)=ZF (ZD b):=by rw[h]
theorem fP{a b:ByteArray}(h:a=b):Ending.returned (U a)=ZF (U b):=by rw[h]
theorem jj (h:s.size=0):s=⟨#[]⟩:=by obtain⟨a⟩:=s;have:a.size=0:=h;rw[Array.eq_empty_of_size_eq_zero this]
theorem ja (h:¬ s.size=0):¬ s.toList=[]:=by
 intro e;have h2:s.toList.length=s.size:=by rw[ByteArray.toList_eq];rfl
 rw[e] at h2;simp at h2;omega
theorem nb1{c:Array ZC}{s:ZI}(h:w.alloc (J c s)=W):Hid (Below w.heap.size w W)/\Hid (W.heap[w.heap.size]?=T (J c s (0,0)))/\W.heap.size=w.heap.size+1:=by subst h;exact⟨(Below.refl w.heap.size w).alloc (Nat.le_refl _) _,heap_alloc_new w _,by simp⟩
theorem nb2{c d:Array ZC}{s:ZI}(h:(w.alloc (J c s)).alloc (J d t)=W):Hid (Below w.heap.size w W)/\Hid (W.heap[w.heap.size]?=T (J c s (0,0)))/\Hid (W.heap[w.heap.size+1]?=T (J d t (0,0)))/\W.heap.size=w.heap.size+2:=by obtain⟨ZS,K,z⟩:=nb1 (w:=w) (c:=c) (s:=s) rfl;obtain⟨B,ZP,y⟩:=nb1 h;rw[z] at B ZP y;exact⟨Below.trans ZS.out (B.out.mono (by omega)),(B.out.block _ (by omega)).trans K.out,ZP,y⟩
theorem nb3{c d f:Array ZC}{s u:ZI}(h:((w.alloc (J c s)).alloc (J d t)).alloc (J f u)=W):Hid (Below w.heap.size w W)/\Hid (W.heap[w.heap.size]?=T (J c s (0,0)))/\Hid (W.heap[w.heap.size+1]?=T (J d t (0,0)))/\Hid (W.heap[w.heap.size+2]?=T (J f u (0,0)))/\W.heap.size=w.heap.size+3:=by obtain⟨ZS,K,L,z⟩:=nb2 (w:=w) (c:=c) (d:=d) (s:=s) (t:=t) rfl;obtain⟨B,ZP,y⟩:=nb1 h;rw[z] at B ZP y;exact⟨Below.trans ZS.out (B.out.mono (by omega)),(B.out.block _ (by omega)).trans K.out,(B.out.block _ (by omega)).trans L.out,ZP,y⟩
theorem al3 (h:∀j,P j):P 0/\P 1/\P 2:=⟨h 0,h 1,h 2⟩
theorem al6 (h:∀j,P j):P 0/\P 1/\P 2/\P 3/\P 4/\P 5:=⟨h 0,h 1,h 2,h 3,h 4,h 5⟩
theorem bl6 (h:∀j,j<6->P j):P 0/\P 1/\P 2/\P 3/\P 4/\P 5:=⟨h 0 (by decide),h 1 (by decide),h 2 (by decide),h 3 (by decide),h 4 (by decide),h 5 (by decide)⟩
structure Ins where
 op:Int
 s:ByteArray
 n:Int
def AtIns (w:M)(b off i:Nat)(x:Ins):Prop :=
 A w (Q b (off+i*3) Y)=T (N I x.op)/\A w (Q b (off+i*3+1) Y)=T (U x.s)/\A w (Q b (off+i*3+2) Y)=T (N I x.n)
theorem AtIns.aa{x:Ins}(h:AtIns w b off i x)(hb:Below B w f)(c:b<B):AtIns f b off i x :=
 ⟨(hb.cell (p:=(Q b _ Y)) c).trans h.1,(hb.cell (p:=(Q b _ Y)) c).trans h.2.1,(hb.cell (p:=(Q b _ Y)) c).trans h.2.2⟩
def RowIns (w:M)(b off n:Nat)(f:Nat->Ins):Prop:=b<w.heap.size/\∀i,i<n->AtIns w b off i (f i)
theorem RowIns.aa{f:Nat->Ins}(h:RowIns w b off n f)(hb:Below B w c)(g:w.heap.size<=B):RowIns c b off n f :=
 ⟨Nat.lt_of_lt_of_le h.1 hb.size,λi hi=>(h.2 i hi).aa hb (Nat.lt_of_lt_of_le h.1 g)⟩
def SlIns (w:M)(a:Option Addr)(n:Nat)(f:Nat->Ins):Prop:=n=0∨∃b off,a=T (Q b off Y)/\RowIns w b off n f
theorem SlIns.aa{f:Nat->Ins}(h:SlIns w a n f)(hb:Below B w c)(j:w.heap.size<=B):SlIns c a n f:=by
 rcases h with h|⟨b,off,g,i⟩
 {exact .inl h};{exact .inr ⟨b,off,g,i.aa hb j⟩}
theorem RowIns.sl{f:Nat->Ins}(h:RowIns w b off n f):SlIns w (T (Q b off Y)) n f:=.inr ⟨b,off,rfl,h⟩
theorem lm:(Pg.info? 151).map (λi=>(i.zero,i.size,i.bytes))=T (T (ZH #[N I 0,U ⟨#[]⟩,N I 0]),3,32):=by kernel_rfl
def word:Int->List UInt8
 |1=>[108,105,116]|2=>[99,97,116]|3=>[99,117,116]|4=>[114,101,115,116]|5=>[119,111,114,100]|6=>[115,97,109,101]|7=>[100,117,112]|8=>[115,119,97,112]|9=>[100,114,111,112]
 |10=>[106,117,109,112]|11=>[117,110,108,101,115,115]|12=>[97,115,107]|13=>[104,97,115]|14=>[102,97,105,108]|15=>[101,110,100]|_=>[]
def kind:Int->Int
 |1=>1|3=>2|4=>2|5=>2|10=>3|11=>3|_=>0
theorem yK (op:Int)(w:M):Calls Pg 204 #[N I op] w λe f=>e=ZF (.tuple #[U ⟨(word op).toArray⟩,N I (kind op)])/\f=w:=by
 by_cases h:1<=op/\op<=15
 ·have g:op=1∨op=2∨op=3∨op=4∨op=5∨op=6∨op=7∨op=8∨op=9∨op=10∨op=11∨op=12∨op=13∨op=14∨op=15:=by omega
  clear h;rcases g with rfl|rfl|rfl|rfl|rfl|rfl|rfl|rfl|rfl|rfl|rfl|rfl|rfl|rfl|rfl;all_goals
   go_enter func204,ntmps204;go_wp2;go_ret2;exact⟨rfl,rfl⟩
 ·have b:word op=[]:=by
   unfold word;split<;>first|omega|rfl
  have c:kind op=0:=by unfold kind;split<;>first|omega|rfl
  rw[b,c];clear b c;rcases(show op<1∨15<op by omega) with h|h;all_goals
   go_enter func204,ntmps204;go_wp2;go_ret2;exact⟨rfl,rfl⟩
def aE (op:Int):Int:=if op=1 then 2000 else 0
def bO (op:Int):Int:=if op=3∨op=4∨op=5 then 2000 else if op=10∨op=11 then 200 else 0
def aH (op:Int)(sz:Nat)(n:Int):Bool:=decide (1<=op/\op<=15/\(sz:Int)<=aE op/\0<=n/\n<=bO op)
theorem yM (op:Int)(s:ByteArray)(n:Int)(w:M)(f:s.size<=maxLen)(hz:¬ s.toList=[])(h0:0<s.size):Calls Pg 145 #[ZH #[N I op,U s,N I n]] w λe b=>e=ZF (ZD (aH op s.size n))/\Below w.heap.size w b:=by
 unfold maxLen at f;by_cases h:1<=op/\op<=15
 ·have c:op=1∨op=2∨op=3∨op=4∨op=5∨op=6∨op=7∨op=8∨op=9∨op=10∨op=11∨op=12∨op=13∨op=14∨op=15:=by omega
  clear h;rcases c with rfl|rfl|rfl|rfl|rfl|rfl|rfl|rfl|rfl|rfl|rfl|rfl|rfl|rfl|rfl;all_goals
   go_enter func145,ntmps145;go_wp2;all_goals go_ret
   all_goals refine⟨cG ?_,(Below.refl _ _).alloc (Nat.le_refl _) _⟩
   all_goals (rw[Bool.eq_iff_iff];generalize s.size=z at *;simp[aH,aE,bO];try omega)
 ·rcases(show op<1∨15<op by omega) with h|h;all_goals
   go_enter func145,ntmps145;go_wp2;go_ret;refine⟨cG ?_,(Below.refl _ _).alloc (Nat.le_refl _) _⟩;rw[Bool.eq_iff_iff];simp[aH];omega
theorem yN (op:Int)(n:Int)(w:M):Calls Pg 145 #[ZH #[N I op,U ⟨#[]⟩,N I n]] w λe b=>e=ZF (ZD (aH op 0 n))/\Below w.heap.size w b:=by
 by_cases h:1<=op/\op<=15
 ·have c:op=1∨op=2∨op=3∨op=4∨op=5∨op=6∨op=7∨op=8∨op=9∨op=10∨op=11∨op=12∨op=13∨op=14∨op=15:=by omega
  clear h;rcases c with rfl|rfl|rfl|rfl|rfl|rfl|rfl|rfl|rfl|rfl|rfl|rfl|rfl|rfl|rfl;all_goals
   go_enter func145,ntmps145;go_wp2;all_goals go_ret
   all_goals refine⟨cG ?_,(Below.refl _ _).alloc (Nat.le_refl _) _⟩
   all_goals (rw[Bool.eq_iff_iff];simp[aH,aE,bO];try omega)
 ·rcases(show op<1∨15<op by omega) with h|h;all_goals
   go_enter func145,ntmps145;go_wp2;go_ret;refine⟨cG ?_,(Below.refl _ _).alloc (Nat.le_refl _) _⟩;rw[Bool.eq_iff_iff];simp[aH];omega
theorem iQ (op:Int)(s:ByteArray)(n:Int)(w:M)(c:s.size<=maxLen):Calls Pg 145 #[ZH #[N I op,U s,N I n]] w λe b=>e=ZF (ZD (aH op s.size n))/\Below w.heap.size w b:=by
 by_cases h:s.size=0;{have e:=jj h;subst e;exact yN op n w};{exact yM op s n w c (ja h) (by omega)}
theorem yO (k:Nat)(s:ByteArray)(n b c:Int)(w:M)(h1:1<=(k:Int))(h2:(k:Int)<=15)
  (hT:A w (Q 1 (k*5+1) Y)=T (N I b)) (hN:A w (Q 1 (k*5+2) Y)=T (N I c)) (hz:1<w.heap.size)
  (ht:(s.size:Int)<=b) (hn:0<=n) :
  Calls Pg 220 #[ZH #[N I k,U s,N I n]] w λe f=>e=ZF (ZD (decide (n<=c)))/\Below w.heap.size w f:=by
 go_enter func220,ntmps220;go_wp2;go_quiet (fail);go_wp2;go_ret;exact⟨rfl,below_drewN ((Below.refl _ _).alloc (Nat.le_refl _) _) _⟩
theorem yP (k:Nat)(s:ByteArray)(n b:Int)(w:M)(h1:1<=(k:Int))(h2:(k:Int)<=15)
  (hT:A w (Q 1 (k*5+1) Y)=T (N I b)) (hz:1<w.heap.size)
  (ht:(s.size:Int)<=b) (hn:n<0) :
  Calls Pg 220 #[ZH #[N I k,U s,N I n]] w λe c=>e=ZF (ZD ZA)/\Below w.heap.size w c:=by
 have hd:decide (0<=n)=ZA:=by simp;omega
 go_enter func220,ntmps220;go_wp2;go_quiet (fail);go_wp2;go_ret;exact⟨rfl,below_drewN ((Below.refl _ _).alloc (Nat.le_refl _) _) _⟩
theorem yQ (k:Nat)(s:ByteArray)(n b:Int)(w:M)(h1:1<=(k:Int))(h2:(k:Int)<=15)
  (hT:A w (Q 1 (k*5+1) Y)=T (N I b)) (hz:1<w.heap.size)
  (ht:b<(s.size:Int)) :
  Calls Pg 220 #[ZH #[N I k,U s,N I n]] w λe c=>e=ZF (ZD ZA)/\Below w.heap.size w c:=by
 have hd:decide ((s.size:Int)<=b)=ZA:=by simp;omega
 go_enter func220,ntmps220;go_wp2;go_quiet (fail);go_wp2;go_ret;exact⟨rfl,below_drewN ((Below.refl _ _).alloc (Nat.le_refl _) _) _⟩
theorem yR (op:Int)(s:ByteArray)(n:Int)(w:M)(h:op<1∨15<op):Calls Pg 220 #[ZH #[N I op,U s,N I n]] w λe b=>e=ZF (ZD ZA)/\Below w.heap.size w b:=by
 rcases h with h|h;all_goals
  go_enter func220,ntmps220;go_wp2;go_ret;exact⟨rfl,(Below.refl _ _).alloc (Nat.le_refl _) _⟩
def Tab (w:M):Prop:=1<w.heap.size/\∀k:Nat,k<16->A w (Q 1 (k*5+1) Y)=T (N I (aE k))/\A w (Q 1 (k*5+2) Y)=T (N I (bO k))
theorem jM (op:Int)(s:ByteArray)(n:Int)(w:M)(c:Tab w):Calls Pg 220 #[ZH #[N I op,U s,N I n]] w λe j=>e=ZF (ZD (aH op s.size n))/\Below w.heap.size w j:=by
 by_cases h:1<=op/\op<=15;{obtain⟨k,rfl⟩:=Int.eq_ofNat_of_zero_le (show 0<=op by omega);obtain⟨h1,h2⟩:=h;obtain⟨f,i⟩:=c.2 k (by omega);by_cases b:(s.size:Int)<=aE k;{by_cases hn:0<=n;{have e:aH (k:Int) s.size n=decide (n<=bO k):=(by unfold aH;rw[Bool.eq_iff_iff,decide_eq_true_eq,decide_eq_true_eq];exact⟨λh=>h.2.2.2.2,λh=>⟨h1,h2,b,hn,h⟩⟩);rw[e];exact yO k s n _ _ w h1 h2 f i c.1 b hn};{have e:aH (k:Int) s.size n=ZA:=(by unfold aH;rw[decide_eq_false_iff_not];exact λh=>hn h.2.2.2.1);rw[e];exact yP k s n _ w h1 h2 f c.1 b (by omega)}};{have e:aH (k:Int) s.size n=ZA:=(by unfold aH;rw[decide_eq_false_iff_not];exact λh=>b h.2.2.1);rw[e];exact yQ k s n _ w h1 h2 f c.1 (by omega)}};{have e:aH op s.size n=ZA:=(by unfold aH;rw[decide_eq_false_iff_not];exact λg=>h ⟨g.1,g.2.1⟩);rw[e];exact yR op s n w (by omega)}
def dD (f:Nat->Ins):Nat->Bool
 |0=>ZG
 |k+1=>dD f k && aH (f k).op (f k).s.size (f k).n
theorem rX{f:Nat->Ins}{k:Nat}(h:k<=n)(hn:dD f n=ZG):dD f k=ZG:=by
 induction n with
 |zero =>
  obtain rfl:k=0:=by omega
  exact hn
 |succ m b =>
  by_cases e:k=m+1;{subst e;exact hn};{simp only[dD,Bool.and_eq_true] at hn;exact b (by omega) hn.1}
theorem pN{f:Nat->Ins}{k:Nat}(h:k<n)(b:aH (f k).op (f k).s.size (f k).n=ZA):dD f n=ZA:=by
 cases e:dD f n with
 |false=>rfl
 |true =>have h2:=rX (show k+1<=n by omega) e;simp[dD,b] at h2
def valid (f:Nat->Ins)(n:Nat):Bool:=dD f n && decide (1<=(n:Int)/\(n:Int)<=200)
theorem bP{f:Nat->Ins}(h:valid f n=ZG):dD f n=ZG/\1<=(n:Int)/\(n:Int)<=200:=by unfold valid at h;rw[Bool.and_eq_true,decide_eq_true_eq] at h;exact h
theorem gR{f:Nat->Ins}{k:Nat}(h:dD f n=ZG)(hk:k<n):aH (f k).op (f k).s.size (f k).n=ZG:=by have:=rX (show k+1<=n by omega) h;simp only[dD,Bool.and_eq_true] at this;exact this.2
theorem gn (b off n cap:Nat)(f:Nat->Ins)(w:M)(hn:n<=1048576)(hb:b<w.heap.size)(u:∀i,i<n->AtIns w b off i (f i))(y:∀i,i<n->(f i).s.size<=maxLen):Calls Pg 92 #[ZH #[Z (T (Q b off Y)) n cap]] w λe x=>e=ZF (ZD (valid f n))/\Below w.heap.size w x:=by
 have ZS:=ae u;have z:=ae y;clear u y;go_enter func92,ntmps92;go_wp2;go_loopw [3] (λi wr=>∃k:Nat,k<=n/\i=N I k/\dD f k=ZG/\Below (w.heap.size+1) (w.alloc (J #[Z (T (Q b off Y)) n cap] 43)) wr) (λi _=>n - (intOf i).toNat);case atStart=>exact⟨0,by omega,rfl,rfl,Below.refl _ _⟩
 case round =>
  obtain⟨k,hk,rfl,j,g⟩:=hrel;have B:=ae g;have r:=ae j;have t:A wr (Q w.heap.size 0 Y)=T (Z (T (Q b off Y)) n cap):=by rw[g.cell (p:=(Q w.heap.size 0 Y)) (by simp)];simp
  have h:Hid (Below w.heap.size w wr):=((Below.refl _ _).alloc (Nat.le_refl _) _).trans (g.mono (by omega));have q:w.heap.size+1<=wr.heap.size:=by have:=g.size;simpa using this
  clear g j;by_cases c:k<n
  ·obtain⟨c0,c1,c2⟩:=(ZS k c).aa h hb;go_wp2_with fail;refine(iQ _ _ _ _ (z k c)).mono ?_;rintro e x ⟨rfl,m⟩;have l:=ae m;clear m c0 c1 c2 t;cases hi:aH (f k).op (f k).s.size (f k).n with
   |false =>have o:=ae hi;clear hi;go_wp2;go_ret;refine⟨cG ?_,h.trans (l.mono h.size)⟩;simp[valid,pN c o.out]
   |true =>have o:=ae hi;clear hi;go_wp2;exact⟨⟨k+1,by omega,by go_num,by simp[dD,r.out,o.out],B.trans (l.mono q)⟩,by simp[intOf];omega⟩
  ·have e:k=n:=by omega
   subst e;by_cases h1:1<=(k:Int)
   all_goals
    go_wp2;go_ret;refine⟨cG ?_,h⟩;rw[Bool.eq_iff_iff];simp[valid,r.out];try omega
theorem Tab.aa (h:Tab w)(hb:Below B w f)(c:1<B):Tab f :=
 ⟨Nat.lt_of_lt_of_le h.1 hb.size,λk b=>⟨(hb.cell (p:=(Q 1 _ Y)) c).trans (h.2 k b).1,(hb.cell (p:=(Q 1 _ Y)) c).trans (h.2 k b).2⟩⟩
theorem mR (a:Option Addr)(n cap:Nat)(f:Nat->Ins)(w:M)(hn:n<=1048576)(h:(n:Int)<1∨200<(n:Int)):Calls Pg 167 #[ZH #[Z a n cap]] w λe b=>e=ZF (ZD (valid f n))/\Below w.heap.size w b:=by
 have e:valid f n=ZA:=by unfold valid;rw[show decide (1<=(n:Int)/\(n:Int)<=200)=ZA by simp;omega,Bool.and_false]
 rw[e];clear e;rcases h with h|h;all_goals
  go_enter func167,ntmps167;go_wp2;go_ret;exact⟨rfl,(Below.refl _ _).alloc (Nat.le_refl _) _⟩
theorem tz (b off n cap:Nat)(f:Nat->Ins)(w:M)(h1:1<=(n:Int))(h2:(n:Int)<=200)(hb:b<w.heap.size)(x:∀i,i<n->AtIns w b off i (f i))(r:Tab w):Calls Pg 167 #[ZH #[Z (T (Q b off Y)) n cap]] w λe q=>e=ZF (ZD (valid f n))/\Below w.heap.size w q:=by
 have z:=ae x;have ZS:=ae r;have y:=r.1;have t:Hid (valid f n=dD f n):=by show valid f n=dD f n;unfold valid;rw[show decide (1<=(n:Int)/\(n:Int)<=200)=ZG by simp;omega,Bool.and_true]
 clear x r;go_enter func167,ntmps167;go_wp2;go_loopw [18] (λi wr=>∃k:Nat,k<=n/\i=N I k/\dD f k=ZG/\Below w.heap.size w wr) (λi _=>n - (intOf i).toNat);case atStart=>exact⟨0,by omega,rfl,rfl,(Below.refl _ _).alloc (Nat.le_refl _) _⟩
 case round =>
  obtain⟨k,hk,rfl,g,p⟩:=hrel;have c:=ae p;have u:=ae g;have j:w.heap.size<=wr.heap.size:=p.size;clear p g;by_cases l:k<n
  ·obtain⟨c0,c1,c2⟩:=(z k l).aa c hb;go_wp2_with fail;refine(jM _ _ _ _ (ZS.aa (c.alloc j _) y)).mono ?_;rintro e q ⟨rfl,h⟩;have m:Hid (Below w.heap.size w q):=(c.alloc j _).trans (h.mono (by simp;omega));clear h c0 c1 c2;cases hi:aH (f k).op (f k).s.size (f k).n with
   |false =>have o:=ae hi;clear hi;go_wp2;go_ret;refine⟨cG ?_,m⟩;rw[t.out,pN l o.out]
   |true =>have o:=ae hi;clear hi;go_wp2;exact⟨⟨k+1,by omega,by go_num,by simp[dD,u.out,o.out],m⟩,by simp[intOf];omega⟩
  ·have e:k=n:=by omega
   subst e;go_wp2;go_ret;exact⟨cG (by rw[t.out,u.out]),c.out⟩
theorem tA (b off n cap:Nat)(f:Nat->Ins)(w:M)(hn:n<=1048576)(hb:b<w.heap.size)(c:∀i,i<n->AtIns w b off i (f i))(j:Tab w):Calls Pg 167 #[ZH #[Z (T (Q b off Y)) n cap]] w λe g=>e=ZF (ZD (valid f n))/\Below w.heap.size w g:=by
 by_cases h:(n:Int)<1∨200<(n:Int)
 {exact mR _ n cap f w hn h};{exact tz b off n cap f w (by omega) (by omega) hb c j}
structure Only (b:Nat)(w w':M):Prop where
 os:w'.os=w.os
 tape:w'.tape=w.tape
 output:w'.output=w.output
 size:w.heap.size<=w'.heap.size
 block:∀k,k<w.heap.size->k≠b->w'.heap[k]?=w.heap[k]?
 ty:∀cs t fz,w.heap[b]?=T (J cs t fz)->∃cs',w'.heap[b]?=T (J cs' t fz)
theorem Only.refl (b:Nat)(w:M):Only b w w:=⟨rfl,rfl,rfl,Nat.le_refl _,λ_ _ _=>rfl,λc _ _ h=>⟨c,h⟩⟩
theorem ag{o:Obj}(h:w.heap[i]?=T o):i<w.heap.size:=by
 rcases Nat.lt_or_ge i w.heap.size with b|b;{exact b};{rw[Array.getElem?_eq_none b] at h;cases h}
theorem bX{j:Nat}{c:Array ZC}{fz:Nat × Nat}(h:w.heap[b]?=T (J c t fz))(v:ZC):(w.setCell (Q b j Y) v).heap[b]?=T (J (c.setIfInBounds j v) t fz):=by simp only[World.setCell,Array.getElem?_modify,if_pos,h,Option.map_some];rfl
theorem Only.trans{u v:M}(h:Only b u v)(k:Only b v w):Only b u w :=
 ⟨k.os.trans h.os,k.tape.trans h.tape,k.output.trans h.output,Nat.le_trans h.size k.size,λi hi c=>(k.block i (Nat.lt_of_lt_of_le hi h.size) c).trans (h.block i hi c),λf t fz hb=>let ⟨cs1,h1⟩:=h.ty f t fz hb;k.ty cs1 t fz h1⟩
theorem Only.u (h:Below w.heap.size w c):Only b w c:=⟨h.os,h.tape,h.output,h.size,λi hi _=>h.block i hi,λf _ _ hb=>⟨f,(h.block b (ag hb)).trans hb⟩⟩
theorem Only.aa (h:Only b w c)(hB:B<=b)(hw:B<=w.heap.size):Below B w c:=⟨h.os,h.tape,h.output,h.size,λk hk=>h.block k (by omega) (by omega)⟩
theorem Only.cell (h:Only b w c)(k o:Nat)(f:k<w.heap.size)(hb:k≠b):A c (Q k o Y)=A w (Q k o Y):=World.cell?_of_block (w:=w) (a:=(Q k o Y)) (h.block k f hb)
theorem iA{a:M}(h:Only b a w)(j:Nat)(v:ZC):Only b a (w.setCell (Q b j Y) v) :=
 h.trans ⟨rfl,rfl,rfl,by simp[World.setCell],λk _ c=>Below.heap_setCell _ _ _ _ (by simpa using c),λ_ _ _ hb=>⟨_,bX hb v⟩⟩
theorem Jb{P:Program}{fn:Func}{R:Ending->M->Prop}{a:Act}(c:fn.results=#[])(b:a.defers=[])(hR:R (ZF (.tuple #[])) w):bodyPost P fn R .ret a w :=
 bodyPost_ret (v:=.tuple #[]) (by simp[results,c]) b hR
def Cs (w:M)(b n:Nat)(F:Nat->ZC):Prop:=b<w.heap.size/\∀j,j<n->A w (Q b j Y)=T (F j)/\w.frozen? (Q b j Y)=ZA
structure Turn where
 over:Bool
 E:Int
 B:ByteArray
 ask:Bool
 e:ByteArray
 steps:Int
def Turn.v (t:Turn):ZC:=ZH #[ZD t.over,N I t.E,U t.B,ZD t.ask,U t.e,N I t.steps]
def AK:Turn:=⟨ZA,0,⟨#[]⟩,ZA,⟨#[]⟩,0⟩
structure Mst where
 S:Nat->ByteArray
 size:Nat
 place:Int
 steps:Int
 looks:Int
 t:Turn
def MAt (w:M)(b:Nat)(c:ZC)(m:Mst):Prop:=Cs w b 61 (m.F c)
def ba (k:Nat):Nat:=if k=2∨k=6∨k=8 then 2 else if k=0∨k=1∨k=10∨15<k then 0 else 1
def cB (k:Nat):Nat:=if k=7∨k=8 then 2 else if k=0∨k=9∨k=10∨k=11∨13<k then 0 else 1
def dL (s:ByteArray):Nat->Bool
 |0=>ZG
 |k+1=>dL s k && (match s.data[k]? with|some c=>decide (33<=c.toNat/\c.toNat<=126)|none=>ZA)
def aw (s:ByteArray):Bool:=decide (1<=s.size/\s.size<=60) && dL s s.size
theorem oq{k:Nat}(h:k<=n)(hn:dL s n=ZG):dL s k=ZG:=by
 induction n with
 |zero =>
  obtain rfl:k=0:=by omega
  exact hn
 |succ m b =>
  by_cases e:k=m+1;{subst e;exact hn};{simp only[dL,Bool.and_eq_true] at hn;exact b (by omega) hn.1}
theorem kN{k:Nat}(h:k<s.size):dL s (k+1)=(dL s k && decide (33<=s[k].toNat/\s[k].toNat<=126)):=by
 have e:s.data[k]?=T s[k]:=by rw[Array.getElem?_eq_getElem h];rfl
 rw[dL,e]
theorem gS{k:Nat}(h:k<s.size)(hk:¬ (33<=s[k].toNat/\s[k].toNat<=126)):dL s s.size=ZA:=by
 cases e:dL s s.size with
 |false=>rfl
 |true =>have h2:=oq (show k+1<=s.size by omega) e;rw[kN h] at h2;simp at h2;omega
theorem uc (s:ByteArray)(w:M)(F:Nat)(hF:(True/\F=109)∨F=69):Calls Pg F #[U s] w λe m=>e=ZF (ZD (aw s))/\Below w.heap.size w m:=by
 by_cases h1:1<=(s.size:Int)/\(s.size:Int)<=60
 ·have g:Hid (aw s=dL s s.size):=by
   show aw s=dL s s.size;unfold aw;rw[show decide (1<=s.size/\s.size<=60)=ZG by simp;omega,Bool.true_and]
  obtain⟨h1,h2⟩:=h1;rcases hF with ⟨ZR,rfl⟩|rfl;all_goals
   first|(guard_hyp ZR;go_enter func109,ntmps109)|go_enter func69,ntmps69
   go_wp2;first|(guard_hyp ZR;go_loopw [14] (λi wr=>∃k:Nat,k<=s.size/\i=N I k/\dL s k=ZG/\Below w.heap.size w wr) (λi _=>s.size - (intOf i).toNat))|go_loopw [3] (λi wr=>∃k:Nat,k<=s.size/\i=N I k/\dL s k=ZG/\Below w.heap.size w wr) (λi _=>s.size - (intOf i).toNat)
   case atStart=>exact⟨0,by omega,rfl,rfl,Below.refl _ _⟩
   case round =>
    obtain⟨k,hk,rfl,f,l⟩:=hrel;have c:=ae l;have j:=ae f;clear l f;by_cases b:k<s.size
    ·by_cases p1:33<=(s[k].toNat:Int)
     ·by_cases p2:(s[k].toNat:Int)<=126
      ·go_wp2
       exact⟨⟨k+1,by omega,by go_num,by rw[kN b,j.out];simp;omega,c⟩,by simp[intOf];omega⟩
      ·go_wp2
       go_ret;exact⟨cG (by rw[g.out,gS b (by omega)]),c⟩
     ·go_wp2
      go_ret;exact⟨cG (by rw[g.out,gS b (by omega)]),c⟩
    ·have e:k=s.size:=by omega
     subst e;go_wp2;go_ret;exact⟨cG (by rw[g.out,j.out]),c.out⟩
 ·rw[show aw s=ZA by unfold aw;rw[show decide (1<=s.size/\s.size<=60)=ZA by simp;omega,Bool.false_and]];by_cases h2:1<=(s.size:Int)
  ·have h3:¬ (s.size:Int)<=60:=λh=>h1 ⟨h2,h⟩;clear h1;rcases hF with ⟨ZR,rfl⟩|rfl;all_goals
    first|(guard_hyp ZR;go_enter func109,ntmps109)|go_enter func69,ntmps69
    go_wp2;go_ret;exact⟨rfl,Below.refl _ _⟩
  ·clear h1;rcases hF with ⟨ZR,rfl⟩|rfl;all_goals
    first|(guard_hyp ZR;go_enter func109,ntmps109)|go_enter func69,ntmps69
    go_wp2;go_ret;exact⟨rfl,Below.refl _ _⟩
abbrev jv (s:ByteArray)(w:M):=uc s w _ (.inl ⟨trivial,rfl⟩)
abbrev dc (s:ByteArray)(w:M):=uc s w _ (.inr rfl)
structure aI where
 has:Bool
 E:Int
 B:ByteArray
def AtReply (w:M)(b off i:Nat)(x:aI):Prop :=
 A w (Q b (off+i*3) Y)=T (ZD x.has)/\A w (Q b (off+i*3+1) Y)=T (N I x.E)/\A w (Q b (off+i*3+2) Y)=T (U x.B)
theorem AtReply.aa{x:aI}(h:AtReply w b off i x)(hb:Below B w f)(c:b<B):AtReply f b off i x :=
 ⟨(hb.cell (p:=(Q b _ Y)) c).trans h.1,(hb.cell (p:=(Q b _ Y)) c).trans h.2.1,(hb.cell (p:=(Q b _ Y)) c).trans h.2.2⟩
def RowReply (w:M)(b off n:Nat)(f:Nat->aI):Prop:=b<w.heap.size/\∀i,i<n->AtReply w b off i (f i)
theorem RowReply.aa{f:Nat->aI}(h:RowReply w b off n f)(hb:Below B w c)(g:w.heap.size<=B):RowReply c b off n f :=
 ⟨Nat.lt_of_lt_of_le h.1 hb.size,λi hi=>(h.2 i hi).aa hb (Nat.lt_of_lt_of_le h.1 g)⟩
structure Source where
 e:ByteArray
 B:ByteArray
def AtSource (w:M)(b off i:Nat)(x:Source):Prop :=
 A w (Q b (off+i*2) Y)=T (U x.e)/\A w (Q b (off+i*2+1) Y)=T (U x.B)
theorem AtSource.aa{x:Source}(h:AtSource w b off i x)(hb:Below B w c)(f:b<B):AtSource c b off i x :=
 ⟨(hb.cell (p:=(Q b _ Y)) f).trans h.1,(hb.cell (p:=(Q b _ Y)) f).trans h.2⟩
def RowSource (w:M)(b off n:Nat)(f:Nat->Source):Prop:=b<w.heap.size/\∀i,i<n->AtSource w b off i (f i)
theorem RowSource.aa{f:Nat->Source}(h:RowSource w b off n f)(hb:Below B w c)(g:w.heap.size<=B):RowSource c b off n f :=
 ⟨Nat.lt_of_lt_of_le h.1 hb.size,λi hi=>(h.2 i hi).aa hb (Nat.lt_of_lt_of_le h.1 g)⟩
def SlSource (w:M)(a:Option Addr)(n:Nat)(f:Nat->Source):Prop:=n=0∨∃b off,a=T (Q b off Y)/\RowSource w b off n f
theorem SlSource.aa{f:Nat->Source}(h:SlSource w a n f)(hb:Below B w c)(j:w.heap.size<=B):SlSource c a n f:=by
 rcases h with h|⟨b,off,g,i⟩
 {exact .inl h};{exact .inr ⟨b,off,g,i.aa hb j⟩}
theorem lJ:(Pg.info? 142).map (λi=>(i.zero,i.size,i.bytes))=T (T (ZH #[U ⟨#[]⟩,U ⟨#[]⟩]),2,32):=by kernel_rfl
structure Target where
 e:ByteArray
 f:Nat
 H:Nat->Ins
def cT (x:Target):Prop:=x.f<=1048576
def AtTarget (w:M)(b off i:Nat)(x:Target):Prop :=
 A w (Q b (off+i*2) Y)=T (U x.e)/\(∃a cap,A w (Q b (off+i*2+1) Y)=T (Z a x.f cap)/\SlIns w a x.f x.H)
theorem AtTarget.aa{j:M}{x:Target}(h:AtTarget w b off i x)(hb:Below B w j)(c:w.heap.size<=B)(g:b<w.heap.size):AtTarget j b off i x:=by obtain⟨l,⟨a0,f,m,r0⟩⟩:=h;refine⟨(hb.cell (p:=(Q b _ Y)) (Nat.lt_of_lt_of_le g c)).trans l,⟨a0,f,(hb.cell (p:=(Q b _ Y)) (Nat.lt_of_lt_of_le g c)).trans m,r0.aa hb c⟩⟩
def RowTarget (w:M)(b off n:Nat)(f:Nat->Target):Prop:=b<w.heap.size/\∀i,i<n->AtTarget w b off i (f i)
theorem RowTarget.aa{f:Nat->Target}(h:RowTarget w b off n f)(hb:Below B w c)(g:w.heap.size<=B):RowTarget c b off n f :=
 ⟨Nat.lt_of_lt_of_le h.1 hb.size,λi hi=>(h.2 i hi).aa hb g h.1⟩
def SlTarget (w:M)(a:Option Addr)(n:Nat)(f:Nat->Target):Prop:=n=0∨∃b off,a=T (Q b off Y)/\RowTarget w b off n f
theorem SlTarget.aa{f:Nat->Target}(h:SlTarget w a n f)(hb:Below B w c)(j:w.heap.size<=B):SlTarget c a n f:=by
 rcases h with h|⟨b,off,g,i⟩
 {exact .inl h};{exact .inr ⟨b,off,g,i.aa hb j⟩}
theorem gT:(Pg.info? 146).map (λi=>(i.zero,i.size,i.bytes))=T (T (ZH #[U ⟨#[]⟩,Z Y 0 0]),2,40):=by kernel_rfl
def ud (w:M)(b off n:Nat)(f:Nat->ByteArray):Prop:=b<w.heap.size/\∀i,i<n->A w (Q b (off+i) Y)=T (U (f i))
theorem lK:(Pg.info? 9).map (λi=>(i.zero,i.size,i.bytes))=T (T (U ⟨#[]⟩),1,16):=by kernel_rfl
theorem yS (f:Nat->Ins):valid f 0=ZA:=by simp[valid]
theorem ue (a:Option Addr)(n cap:Nat)(f:Nat->Ins)(w:M)(hn:n<=1048576)(g:SlIns w a n f)(i:Tab w):Calls Pg 167 #[ZH #[Z a n cap]] w λe h=>e=ZF (ZD (valid f n))/\Below w.heap.size w h:=by
 rcases g with rfl|⟨b,off,rfl,c⟩
 {exact mR a 0 cap f w (by omega) (by simp)};{exact tA b off n cap f w hn c.1 c.2 i}
theorem tB (a:Option Addr)(cap:Nat)(f:Nat->Ins)(w:M):Calls Pg 92 #[ZH #[Z a 0 cap]] w λe b=>e=ZF (ZD (valid f 0))/\Below w.heap.size w b:=by
 rw[yS];have c:=ae ((Below.refl w.heap.size w).alloc (Nat.le_refl _) (J #[Z a 0 cap] 43));go_enter func92,ntmps92;go_wp2;go_loop [3] (λi=>i=N I 0) (λ_=>0);case atStart=>rfl
 case round =>subst hrel;go_wp2;go_ret;exact⟨rfl,c⟩
theorem jN (a:Option Addr)(n cap:Nat)(f:Nat->Ins)(w:M)(hn:n<=1048576)(g:SlIns w a n f)(j:∀i,i<n->(f i).s.size<=maxLen):Calls Pg 92 #[ZH #[Z a n cap]] w λe h=>e=ZF (ZD (valid f n))/\Below w.heap.size w h:=by
 rcases g with rfl|⟨b,off,rfl,c⟩
 {exact tB a cap f w};{exact gn b off n cap f w hn c.1 c.2 j}
structure Link where
 e:ByteArray
 ask:Bool
 has:Bool
 L:Int
def AtLink (w:M)(b off i:Nat)(x:Link):Prop :=
 A w (Q b (off+i*4) Y)=T (U x.e)/\A w (Q b (off+i*4+1) Y)=T (ZD x.ask)/\A w (Q b (off+i*4+2) Y)=T (ZD x.has)/\A w (Q b (off+i*4+3) Y)=T (N I x.L)
theorem AtLink.aa{x:Link}(h:AtLink w b off i x)(hb:Below B w f)(c:b<B):AtLink f b off i x :=
 ⟨(hb.cell (p:=(Q b _ Y)) c).trans h.1,(hb.cell (p:=(Q b _ Y)) c).trans h.2.1,(hb.cell (p:=(Q b _ Y)) c).trans h.2.2.1,(hb.cell (p:=(Q b _ Y)) c).trans h.2.2.2⟩
def RowLink (w:M)(b off n:Nat)(f:Nat->Link):Prop:=b<w.heap.size/\∀i,i<n->AtLink w b off i (f i)
theorem RowLink.aa{f:Nat->Link}(h:RowLink w b off n f)(hb:Below B w c)(g:w.heap.size<=B):RowLink c b off n f :=
 ⟨Nat.lt_of_lt_of_le h.1 hb.size,λi hi=>(h.2 i hi).aa hb (Nat.lt_of_lt_of_le h.1 g)⟩
def SlLink (w:M)(a:Option Addr)(n:Nat)(f:Nat->Link):Prop:=n=0∨∃b off,a=T (Q b off Y)/\RowLink w b off n f
theorem SlLink.aa{f:Nat->Link}(h:SlLink w a n f)(hb:Below B w c)(j:w.heap.size<=B):SlLink c a n f:=by
 rcases h with h|⟨b,off,g,i⟩
 {exact .inl h};{exact .inr ⟨b,off,g,i.aa hb j⟩}
theorem iC:(Pg.info? 91).map (λi=>(i.zero,i.size,i.bytes))=T (T (ZH #[U ⟨#[]⟩,ZD ZA,ZD ZA,N I 0]),4,32):=by kernel_rfl
structure Deed where
 e:ByteArray
 m:Int
 E:Int
 B:ByteArray
 f:Nat
 H:Nat->Ins
 b:Nat
 D:Nat->Link
def fk (x:Deed):Prop:=x.e.size<=maxLen/\x.B.size<=maxLen/\((x.f:Int)<=9223372036854775807/\∀j,j<x.f->(x.H j).s.size<=maxLen)/\((x.b:Int)<=9223372036854775807/\∀j,j<x.b->(x.D j).e.size<=maxLen)
def cV (x:Deed):Prop:=x.f<=1048576/\x.b<=1048576
def AtDeed (w:M)(b off i:Nat)(x:Deed):Prop :=
 A w (Q b (off+i*6) Y)=T (U x.e)/\A w (Q b (off+i*6+1) Y)=T (N I x.m)/\A w (Q b (off+i*6+2) Y)=T (N I x.E)/\A w (Q b (off+i*6+3) Y)=T (U x.B)/\(∃a cap,A w (Q b (off+i*6+4) Y)=T (Z a x.f cap)/\SlIns w a x.f x.H)/\(∃a cap,A w (Q b (off+i*6+5) Y)=T (Z a x.b cap)/\SlLink w a x.b x.D)
theorem AtDeed.aa{l:M}{x:Deed}(h:AtDeed w b off i x)(hb:Below B w l)(c:w.heap.size<=B)(f:b<w.heap.size):AtDeed l b off i x:=by obtain⟨o,m,q,r,⟨a0,j,s,r0⟩,⟨a1,g,n,r1⟩⟩:=h;refine⟨(hb.cell (p:=(Q b _ Y)) (Nat.lt_of_lt_of_le f c)).trans o,(hb.cell (p:=(Q b _ Y)) (Nat.lt_of_lt_of_le f c)).trans m,(hb.cell (p:=(Q b _ Y)) (Nat.lt_of_lt_of_le f c)).trans q,(hb.cell (p:=(Q b _ Y)) (Nat.lt_of_lt_of_le f c)).trans r,⟨a0,j,(hb.cell (p:=(Q b _ Y)) (Nat.lt_of_lt_of_le f c)).trans s,r0.aa hb c⟩,⟨a1,g,(hb.cell (p:=(Q b _ Y)) (Nat.lt_of_lt_of_le f c)).trans n,r1.aa hb c⟩⟩
def RowDeed (w:M)(b off n:Nat)(f:Nat->Deed):Prop:=b<w.heap.size/\∀i,i<n->AtDeed w b off i (f i)
theorem RowDeed.aa{f:Nat->Deed}(h:RowDeed w b off n f)(hb:Below B w c)(g:w.heap.size<=B):RowDeed c b off n f :=
 ⟨Nat.lt_of_lt_of_le h.1 hb.size,λi hi=>(h.2 i hi).aa hb g h.1⟩
def SlDeed (w:M)(a:Option Addr)(n:Nat)(f:Nat->Deed):Prop:=n=0∨∃b off,a=T (Q b off Y)/\RowDeed w b off n f
theorem SlDeed.aa{f:Nat->Deed}(h:SlDeed w a n f)(hb:Below B w c)(j:w.heap.size<=B):SlDeed c a n f:=by
 rcases h with h|⟨b,off,g,i⟩
 {exact .inl h};{exact .inr ⟨b,off,g,i.aa hb j⟩}
theorem fm:(Pg.info? 46).map (λi=>(i.zero,i.size,i.bytes))=T (T (ZH #[U ⟨#[]⟩,N I 0,N I 0,U ⟨#[]⟩,Z Y 0 0,Z Y 0 0]),6,96):=by kernel_rfl
def dx (n:Nat):Array ZC:=madeCells (Value.agg #[U ⟨#[]⟩,N I 0,N I 0,U ⟨#[]⟩,Z Y 0 0,Z Y 0 0]).cells (n*6)
theorem Jc (n:Nat)(hn:n<=1048576)(w:M):(Instr.makeSlice 35 (N I (n:Int)) (N I (n:Int))).run Pg w=.ok (Z (T (Q w.heap.size 0 Y)) n n) (w.alloc (J (dx n) 46)):=by obtain⟨i,hi,hz⟩:=Option.map_eq_some_iff.1 fm;simp only[Prod.mk.injEq] at hz;obtain⟨h1,h2,h3⟩:=hz;have h:=run_make (P:=Pg) w 35 46 i _ underlying35 hi h1 I I n n (by omega) (Int.le_refl _) (by rw[h3];omega) (by omega);rw[h2] at h;simpa[dx] using h
def ew (f:Nat->Deed)(p:Nat)(l:Link):Bool :=
 aw l.e && (if l.ask=ZG then !l.has && decide (0<=l.L) && decide (l.L<(p:Int)) && ((f l.L.toNat).e.toList == l.e.toList) else decide (l.L=0))
def bN (f:Nat->Deed)(p:Nat)(x:Deed):Nat->Bool
 |0=>ZG
 |k+1=>bN f p x k && ew f p (x.D k)
def aY (x:Deed):Bool:=decide (x.E=0) && decide (x.f=0) && decide (x.b=0)
def cH (f:Nat->Deed)(p:Nat)(x:Deed):Bool:=decide (0<=x.E) && decide (x.E<=5) && valid x.H x.f && decide (x.b<=200) && bN f p x x.b
def kindOk (f:Nat->Deed)(p:Nat)(x:Deed):Bool :=
 if x.m=1 then aY x else if x.m=2 then aY x && decide (x.B.size=0) else if x.m=3 then cH f p x else ZA
def bi (f:Nat->Deed)(p:Nat):Bool:=aw (f p).e && decide ((f p).B.size<=2000) && kindOk f p (f p)
def bc (f:Nat->Deed)(p:Nat):Nat->Bool
 |0=>ZG
 |k+1=>bc f p k && !((f k).e.toList == (f p).e.toList)
def aM (g:Nat->Bool):Nat->Int
 |0=>-1
 |k+1=>if aM g k=-1 then (if g k=ZG then -1 else k) else aM g k
theorem fE (h:∀i,i<n->g i=ZG):aM g n=-1:=by
 induction n with
 |zero=>rfl
 |succ k b =>rw[aM,if_pos (b λi hi=>h i (by omega)),if_pos (h k (by omega))]
theorem fQ (hi:i<n)(c:g i=ZA)(h:∀j,j<i->g j=ZG):aM g n=i:=by
 induction n with
 |zero=>omega
 |succ k b =>
  rw[aM];by_cases e:i=k;{subst e;rw[if_pos (fE h),if_neg (by rw[c];simp)]};{have:=b (by omega);rw[this,if_neg (by omega)]}
theorem fR (h:aM g n=-1):∀i,i<n->g i=ZG:=by
 induction n with
 |zero=>intro i hi;omega
 |succ k b =>
  rw[aM] at h;split at h
  ·rename_i h1;intro i hi;by_cases e:i=k
   ·subst e;cases hg:g i with
    |true=>rfl
    |false=>rw[hg] at h;simp at h
   {exact b h1 i (by omega)}
  {rename_i h1;exact absurd h h1}
theorem fS{f:Nat->Deed}{x:Deed}(h:bN f p x n=ZG):∀i,i<n->ew f p (x.D i)=ZG:=by
 induction n with
 |zero=>intro i hi;omega
 |succ k b =>
  simp only[bN,Bool.and_eq_true] at h;intro i hi;by_cases e:i=k;{subst e;exact h.2};{exact b h.1 i (by omega)}
def lks (b:Nat->Nat->(Nat->Bool)->(Nat->Bool) × List (Nat × Nat))(x:Deed)(d:Nat)(s:Nat->Bool):Nat->(Nat->Bool) × List (Nat × Nat)
 |0=>(s,[])
 |j+1=>if (x.D j).ask=ZG/\(lks b x d s j).1 (x.D j).L.toNat=ZA then ((b (x.D j).L.toNat (d+1) (lks b x d s j).1).1,(lks b x d s j).2++(b (x.D j).L.toNat (d+1) (lks b x d s j).1).2) else lks b x d s j
def put (s:Nat->Bool)(p:Nat):Nat->Bool:=λq=>q == p || s q
def lst (f:Nat->Deed):Nat->Nat->Nat->(Nat->Bool)->(Nat->Bool) × List (Nat × Nat)
 |0,_,_,s=>(s,[])
 |k+1,p,d,s=>(put (lks (lst f k) (f p) d s (f p).b).1 p,(lks (lst f k) (f p) d s (f p).b).2++[(p,d)])
def gu (f:Nat->Deed)(n:Nat):Prop:=∀p,p<n->∀i,i<(f p).b->((f p).D i).ask=ZG->((f p).D i).L.toNat<p/\0<=((f p).D i).L
def cnt (s:Nat->Bool):Nat->Nat
 |0=>0
 |k+1=>cnt s k+(if s k=ZG then 1 else 0)
theorem Jd (s:Nat->Bool)(n:Nat):cnt s n<=n:=by
 induction n with
 |zero=>simp[cnt]
 |succ k ih=>rw[cnt];split<;>omega
theorem AM{s b:Nat->Bool}(h:∀q,q<n->s q=b q):cnt s n=cnt b n:=by
 induction n with
 |zero=>rfl
 |succ k c=>rw[cnt,cnt,c λq hq=>h q (by omega),h k (by omega)]
theorem GT{s:Nat->Bool}(hp:p<n)(h:s p=ZA):cnt (put s p) n=cnt s n+1:=by
 induction n with
 |zero=>omega
 |succ k b =>
  rw[cnt,cnt];by_cases e:p=k
  ·subst e;have h1:cnt (put s p) p=cnt s p:=AM λq hq=>by simp[put];omega
   simp[h1,put,h]
  ·have h1:put s p k=s k:=by simp[put];omega
   rw[b (by omega),h1];omega
structure Lsd (n p d:Nat)(s:Nat->Bool)(r:(Nat->Bool) × List (Nat × Nat)):Prop where
 far:∀q,p<q->r.1 q=s q
 old:∀q,s q=ZG->r.1 q=ZG
 num:cnt r.1 n=cnt s n+r.2.length
 last:∃o,r.2=o++[(p,d)]
 le:∀x∈r.2,x.1<=p
theorem xN {f:Nat->Deed}{n k p d:Nat}{s:Nat->Bool}(i:gu f n)(l:p<n)(m:∀q d s,q<p->s q=ZA->Lsd n q d s (lst f k q d s)):∀j,j<=(f p).b->(∀q,p<=q->(lks (lst f k) (f p) d s j).1 q=s q)/\(∀q,s q=ZG->(lks (lst f k) (f p) d s j).1 q=ZG)/\cnt (lks (lst f k) (f p) d s j).1 n=cnt s n+(lks (lst f k) (f p) d s j).2.length/\∀x∈(lks (lst f k) (f p) d s j).2,x.1<p
 |0,_=>⟨λ_ _=>rfl,λ_ h=>h,by simp[lks],by simp[lks]⟩
 |j+1,hj=>by
  obtain⟨h1,h2,h3,h4⟩:=xN (d:=d) (s:=s) i l m j (by omega);rw[lks];split
  ·rename_i o
   have r:=(i p l j (by omega) o.1).1;have g:=m _ (d+1) _ r o.2;refine⟨λq c=>(g.far q (by omega)).trans (h1 q c),λq c=>g.old q (h2 q c),?_,λx b=>?_⟩
   ·show cnt (lst f k _ (d+1) _).1 n=_
    rw[g.num,h3,List.length_append];omega
   ·rcases List.mem_append.1 b with b|b
    ·exact h4 x b
    ·have:=g.le x b
     omega
  ·exact⟨h1,h2,h3,h4⟩
theorem xO {f:Nat->Deed}{n:Nat}(i:gu f n):∀k p d s,p<k->p<n->s p=ZA->Lsd n p d s (lst f k p d s)
 |0,_,_,_,h,_,_=>absurd h (Nat.not_lt_zero _)
 |k+1,p,d,s,hk,hn,c=>by
  obtain⟨h1,h2,h3,h4⟩:=xN (d:=d) (s:=s) i hn (λq d s g c=>xO i k q d s (by omega) (by omega) c) (f p).b (Nat.le_refl _);have j:=(h1 p (Nat.le_refl _)).trans c;refine⟨λq g=>?_,λq g=>?_,?_,⟨_,rfl⟩,λx b=>?_⟩
  ·show put _ p q=s q
   rw[put,h1 q (by omega)];simp;omega
  ·show put _ p q=ZG
   rw[put,h2 q g];simp
  ·show cnt (put _ p) n=_
   rw[GT hn j,h3];simp[lst,List.length_append];omega
  ·rcases List.mem_append.1 b with b|b
   ·exact Nat.le_of_lt (h4 x b)
   ·simp at b
    subst b;exact Nat.le_refl _
theorem xP {f:Nat->Deed}{n:Nat}(c:gu f n):∀k p d s q,p<n->p<q->lst f k p d (put s q)=(put (lst f k p d s).1 q,(lst f k p d s).2)
 |0,_,_,_,_,_,_=>rfl
 |k+1,p,d,s,q,hn,hq=>by
  have g:∀j,j<=(f p).b->lks (lst f k) (f p) d (put s q) j=(put (lks (lst f k) (f p) d s j).1 q,(lks (lst f k) (f p) d s j).2):=by
   intro j;induction j with
   |zero=>intro _;rfl
   |succ j i =>
    intro hj;have e:=i (by omega);rw[lks,lks,e];by_cases b:((f p).D j).ask=ZG
    ·have ha:=(c p hn j (by omega) b).1
     have l:put (lks (lst f k) (f p) d s j).1 q ((f p).D j).L.toNat=(lks (lst f k) (f p) d s j).1 ((f p).D j).L.toNat:=by simp[put];omega
     simp only[l,b,true_and];split
     ·rw[xP c k _ (d+1) _ q (by omega) (by omega)]
     ·rfl
    ·rw[if_neg (λh=>b h.1),if_neg (λh=>b h.1)]
  have e:=g (f p).b (Nat.le_refl _);rw[lst,lst,e];simp only[Prod.mk.injEq,and_true];funext x;simp only[put];cases h1:x == p<;>cases h2:x == q<;>simp
def bA:Nat->List (Nat × Nat)->Int
 |_,[]=>-1
 |i,x::xs=>if x.1=i then bA (i+1) xs else i
def aZ (f:Nat->Deed):List (Nat × Nat)->Int
 |[]=>-1
 |x::xs=>if (f x.1).m=3/\60<=x.2 then x.1 else aZ f xs
def aC (f:Nat->Deed)(n:Nat):List (Nat × Nat):=(lst f n (n - 1) 0 (λ_=>ZA)).2
def eW (f:Nat->Deed)(n:Nat):Int × Int :=
 if n=0∨400<n then (1,0) else
 if aM (bi f) n≠-1 then (2,aM (bi f) n) else
 if aM (λp=>bc f p p) n≠-1 then (3,aM (λp=>bc f p p) n) else
 if bA 0 (aC f n)≠-1 then (4,bA 0 (aC f n)) else
 if aZ f (aC f n)≠-1 then (5,aZ f (aC f n)) else (0,0)
theorem jO{f:Nat->Deed}(h:aM (bi f) n=-1):gu f n:=by
 intro p b i hi c;have h1:=fR h p b;simp only[bi,Bool.and_eq_true,kindOk] at h1;obtain⟨_,h2⟩:=h1;split at h2;{simp[aY] at h2;omega};{split at h2;{simp[aY] at h2;omega};{split at h2;{simp only[cH,Bool.and_eq_true] at h2;have h3:=fS h2.2 i hi;simp only[ew,c,if_true,Bool.and_eq_true,decide_eq_true_eq] at h3;omega};{cases h2}}}
theorem wL (s:ByteArray)(w:M):Calls Pg 109 #[U s] w λe l=>e=ZF (ZD (aw s))/\l=w:=by
 by_cases h1:1<=(s.size:Int)
 ·by_cases h2:(s.size:Int)<=60
  ·have g:Hid (aw s=dL s s.size):=by
    show aw s=dL s s.size;unfold aw;rw[show decide (1<=s.size/\s.size<=60)=ZG by simp;omega,Bool.true_and]
   go_enter func109,ntmps109;go_wp2;go_loopw [14] (λi wr=>∃k:Nat,k<=s.size/\i=N I k/\dL s k=ZG/\wr=w) (λi _=>s.size - (intOf i).toNat);case atStart=>exact⟨0,by omega,rfl,rfl,rfl⟩
   case round =>
    obtain⟨k,hk,rfl,f,j⟩:=hrel;have c:=ae j;have h:=ae f;clear j f;by_cases b:k<s.size
    ·by_cases p1:33<=(s[k].toNat:Int)
     {by_cases p2:(s[k].toNat:Int)<=126;{go_wp2;exact⟨⟨k+1,by omega,by go_num,by rw[kN b,h.out];simp;omega,c⟩,by simp[intOf];omega⟩};{go_wp2;go_ret;exact⟨cG (by rw[g.out,gS b (by omega)]),c⟩}};{go_wp2;go_ret;exact⟨cG (by rw[g.out,gS b (by omega)]),c⟩}
    ·have e:k=s.size:=by omega
     subst e;go_wp2;go_ret;exact⟨cG (by rw[g.out,h.out]),c.out⟩
  {have e:aw s=ZA:=(by unfold aw;rw[show decide (1<=s.size/\s.size<=60)=ZA by simp;omega,Bool.false_and]);rw[e];clear e;go_enter func109,ntmps109;go_wp2;go_ret;exact⟨rfl,rfl⟩}
 {have e:aw s=ZA:=(by unfold aw;rw[show decide (1<=s.size/\s.size<=60)=ZA by simp;omega,Bool.false_and]);rw[e];clear e;go_enter func109,ntmps109;go_wp2;go_ret;exact⟨rfl,rfl⟩}
def fnv (z:Int)(c:UInt8):Int:=IntKind.u64.wrap (bits BinOp.xor IntKind.u64 z (IntKind.u64.wrap (c.toNat:Int))*1099511628211)
def sumTo (s:ByteArray):Nat->Int
 |0=>14695981039346656037
 |k+1=>fnv (sumTo s k) (s.data.toList.getD k 0)
theorem lL (s:ByteArray)(k:Nat):0<=sumTo s k/\sumTo s k<=18446744073709551615:=by
 cases k with
 |zero=>exact⟨(by decide:(0:Int)<=14695981039346656037),(by decide:(14695981039346656037:Int)<=18446744073709551615)⟩
 |succ k =>show 0<=fnv _ _/\fnv _ _<=_;unfold fnv;rw[IntKind.wrap_u64];omega
theorem pO (s:ByteArray)(k:Nat)(h:k<s.size):sumTo s (k+1)=IntKind.u64.wrap (bits BinOp.xor IntKind.u64 (sumTo s k) (IntKind.u64.wrap (s[k].toNat:Int))*1099511628211):=by
 have e:s.data.toList.getD k 0=s[k]:=by rw[List.getD_eq_getElem?_getD];have h2:k<s.data.size:=h;rw[Array.getElem?_toList,Array.getElem?_eq_getElem h2];rfl
 rw[sumTo,fnv,e]
theorem GU (s:ByteArray)(w:M)(hs:(s.size:Int)<=2097152):Calls Pg 134 #[U s] w λe j=>e=ZF (N .u64 (sumTo s s.size))/\j=w:=by
 go_enter func134,ntmps134;go_wp2;go_loop [3,7] (λc i=>∃(k:Nat) (z:Int),k<=s.size/\0<=z/\z<=18446744073709551615/\Hid (z=sumTo s k)/\c=N .u64 z/\i=N I k) (λ_ i=>s.size - (intOf i).toNat);case atStart=>exact⟨0,14695981039346656037,by omega,by omega,by omega,rfl,rfl,rfl⟩
 case round =>
  obtain⟨k,z,hk,hz0,hz1,g,rfl,rfl⟩:=hrel;by_cases b:k<s.size
  ·have h:Hid (IntKind.u64.wrap (bits BinOp.xor IntKind.u64 z (IntKind.u64.wrap (s[k].toNat:Int))*1099511628211)=sumTo s (k+1)):=by show _=_;rw[g.out];exact(pO s k b).symm
   have f:=ae (lL s (k+1));go_wp2;rw[h.out];exact⟨⟨k+1,_,by omega,f.out.1,f.out.2,rfl,rfl,by go_num⟩,by simp[intOf];omega⟩
  ·obtain rfl:k=s.size:=by omega
   go_wp2;go_ret;exact⟨by rw[<-g.out];rfl,by rfl⟩
def TabW (w:M):Prop:=∀k:Nat,k<16->A w (Q 1 (k*5) Y)=T (U ⟨(word k).toArray⟩)
theorem TabW.aa{b:M}(h:TabW w)(hb:Below B w b)(f:1<B):TabW b :=
 λk c=>(hb.cell (p:=(Q 1 _ Y)) f).trans (h k c)
def mS (x y:Ins):Bool:=x.op == y.op && x.s.toList == y.s.toList && x.n == y.n
def fo (f g:Nat->Ins):Nat->Bool
 |0=>ZG
 |k+1=>fo f g k && mS (f k) (g k)
def iR (f g:Nat->Ins)(n m:Nat):Bool:=decide (n=m) && fo f g n
theorem pQ{f g:Nat->Ins}{k:Nat}(h:k<=n)(hn:fo f g n=ZG):fo f g k=ZG:=by
 induction n with
 |zero =>
  obtain rfl:k=0:=by omega
  exact hn
 |succ m b =>
  by_cases e:k=m+1;{subst e;exact hn};{simp only[fo,Bool.and_eq_true] at hn;exact b (by omega) hn.1}
theorem wM{f g:Nat->Ins}{k:Nat}(h:k<n)(b:mS (f k) (g k)=ZA):fo f g n=ZA:=by
 cases e:fo f g n with
 |false=>rfl
 |true =>have h2:=pQ (show k+1<=n by omega) e;simp[fo,b] at h2
