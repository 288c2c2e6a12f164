import Derived.Test.YtoddkejemcbkmaaGreatDoorProg
import Derived.WalkKit
import Derived.WalkSpells
import Derived.WalkLawsBesides
import Derived.Deep.OwnRows
import Derived.Deep.RegionWith
import Derived.Deep.QuietTactic
import Derived.BigQuiet
set_option maxHeartbeats 1000000
open Go renaming Addr.mk->Q,Value.slice->Z,Value.string->U,Value.int->J,Value.bool->ZD,Obj.cells->N,IntKind.i64->I,World->M,Value->ZC,TypeId->ZH,Ending.returned->ZF,World.cell?->A,Proofs.Tryz.prog->Pg
open Option renaming none->Y,some->T
open Bool renaming false->ZA,true->ZG
namespace Go.Proofs.YtoddkejemcbkmaaGreatDoor.Vp
open Tryz RowKit
variable {w c f W:M}{n B b off i p:Nat}{s:ByteArray}{a:Option Addr}{t:ZH}{P:Nat->Prop}{g:Nat->Bool}
theorem lj{a c:Nat}(h:a<b)(g:b<=c):a<c:=Nat.lt_of_lt_of_le h g
theorem q9 (w:M):Below w.heap.size w w:=Below.refl _ _
theorem br:Below B w w:=Below.refl _ _
abbrev sq:=@World.cell?_setCell_other
abbrev qh:=@Below.heap_setCell
abbrev bp:=@bodyPost_ret
abbrev gq:=@List.getElem?_eq_getElem
abbrev cq:=@World.cell?_of_block
abbrev bg:=@Below.grown
abbrev gz:=@List.getElem_mem
abbrev nj:=@List.not_mem_nil
abbrev mq:=@List.mem_cons_of_mem
abbrev cM:=@List.length_append
abbrev eL:=@Below.refl
abbrev eT:=@List.length_cons
abbrev gM:=@Array.getElem?_eq_some_iff
abbrev nD:=@if_neg
abbrev nL:=@List.mem_singleton
abbrev nX:=@List.length_nil
abbrev n6:=@heap_alloc_new
abbrev n8:=@Nat.le_refl
abbrev p6:=@List.getElem?_eq_some_iff
abbrev p7:=@if_pos
abbrev p8:=@List.mem_append
abbrev p9:=@Nat.le_trans
abbrev wA:=@IntKind.wrap_i64
abbrev zA:=@Bool.and_eq_true
abbrev z8:=@decide_eq_true_eq
abbrev AI:=@Nat.lt_succ_self
abbrev AP:=@congrArg
abbrev AS:=@below_drewN
abbrev AT:=@World.ownsRow_nil
abbrev A9:=@List.mem_cons
abbrev BC:=@Int.eq_ofNat_of_zero_le
abbrev BG:=@List.map_append
abbrev BM:=@List.flatMap_append
abbrev BO:=@Option.some.inj
abbrev BS:=@wpList_append_own
abbrev CV:=@Array.getElem?_modify
abbrev CX:=@List.size_toArray
abbrev DN:=@World.cell?_setCell_same'
abbrev DW:=@List.length_singleton
abbrev E4:=@Nat.zero_le
abbrev F3:=@Nat.le_succ
abbrev F6:=@Nat.zero_add
abbrev GC:=@ByteArray.toList_eq
abbrev HU:=@Nat.lt_of_lt_of_le
abbrev IA:=@Lib.cell_of_heap
abbrev IB:=@List.length_pos_iff
abbrev IH:=@underlying66
abbrev IN:=@underlying9
abbrev IS:=@List.cons_append
abbrev IX:=@List.getD_eq_getElem?_getD
abbrev I5:=@List.getElem?_append_right
abbrev JN:=@World.frozen?_of_block
abbrev J2:=@List.flatMap_cons
abbrev KK:=@List.take_of_length_le
abbrev LN:=@List.length_set
abbrev LY:=@info_parts
abbrev L8:=@List.mem_of_getElem?
abbrev MF:=@underlying22
abbrev MG:=@Prod.mk.injEq
abbrev MH:=@List.nil_append
abbrev MI:=@List.length_drop
abbrev MJ:=@UInt8.toNat_ofNat'
abbrev MK:=@List.getElem?_map
abbrev ML:=@Value.slice.injEq
abbrev MM:=@List.getElem?_append_left
abbrev MN:=@Option.map_eq_some_iff
abbrev MO:=@List.length_take
abbrev MP:=@ByteArray.ext
abbrev MQ:=@ByteArray.size_append
abbrev MR:=@List.getElem?_eq_none
abbrev MS:=@underlying23
abbrev MU:=@Option.some.injEq
abbrev MV:=@List.append_assoc
abbrev MW:=@Lib.frozen_of_heap
abbrev MX:=@List.map_cons
abbrev MY:=@List.range_succ
abbrev MZ:=@List.map_nil
abbrev M5:=@Lib.byteCells_length
abbrev ND:=@underlying5
abbrev NF:=@decide_eq_false_iff_not
abbrev NG:=@List.mem_or_eq_of_mem_set
abbrev NH:=@List.mem_range
abbrev NI:=@List.pairwise_append
abbrev NJ:=@Array.getElem?_toList
abbrev NK:=@Nat.le_of_lt
abbrev NL:=@List.length_eq_zero_iff
abbrev NM:=@underlying3
abbrev NN:=@List.extract_eq_take_drop
abbrev NP:=@List.pairwise_iff_getElem
abbrev NQ:=@World.ownsRow_made
abbrev NR:=@ByteArray.data_extract
abbrev NS:=@Nat.add_zero
abbrev NT:=@List.getElem?_set_self
abbrev NV:=@Nat.not_lt_zero
abbrev NW:=@List.mem_flatMap
abbrev NY:=@Array.length_toList
abbrev NZ:=@List.take_append_drop
abbrev N1:=@Nat.lt_or_ge
abbrev N5:=@Array.replicate_succ
abbrev N9:=@Array.replicate_zero
abbrev OB:=@List.mem_append_left
abbrev OD:=@List.append_toArray
abbrev OH:=@of_decide_eq_true
abbrev OJ:=@underlying42
abbrev ON:=@underlying60
abbrev OP:=@heap_alloc_old
abbrev OQ:=@Array.toList_extract
abbrev OR:=@List.getElem?_set_ne
abbrev OT:=@Array.getElem?_eq_none
abbrev OU:=@run_convert_bytes_back
abbrev OV:=@List.take_succ_eq_append_getElem
abbrev PC:=@List.mem_map
abbrev PD:=@Array.toList_setIfInBounds
abbrev PE:=@Array.ext'
abbrev PF:=@List.push_toArray
abbrev PH:=@underlying50
abbrev PI:=@Nat.min_eq_left
abbrev PJ:=@zeroValue3
abbrev PK:=@List.length_map
abbrev PL:=@List.drop_eq_getElem_cons
abbrev PM:=@List.mem_append_right
abbrev PO:=@Below.heap_setCell
abbrev PQ:=@List.append_inj'
abbrev PR:=@ntmps184
abbrev PS:=@or_false
abbrev PT:=@List.getElem?_of_mem
abbrev PU:=@underlying57
abbrev PV:=@underlying41
abbrev PX:=@results174
abbrev P0:=@Lib.OthersKept.refl
abbrev P3:=@func184
abbrev P6:=@World.ownsRow.lt
abbrev P7:=@Int.tmod_eq_emod_of_nonneg
abbrev P9:=@List.set_append_right
abbrev QB:=@List.length_replicate
abbrev QC:=@List.findIdx?_eq_some_iff_getElem
abbrev QD:=@List.findIdx?_eq_none_iff
abbrev QE:=@Bool.eq_iff_iff
abbrev QG:=@UInt8.toNat_inj
abbrev QH:=@zeroValue9
abbrev QI:=@results116
abbrev QJ:=@ntmps56
abbrev QK:=@Below.drew
abbrev QN:=@underlying4
abbrev QO:=@func56
abbrev QP:=@underlying191
abbrev QR:=@true_and
abbrev QS:=@IntKind.wrap_u8
abbrev QU:=@Oper.semAt_some
abbrev QV:=@zeroValue5
abbrev QW:=@Oper.upon_value
abbrev QX:=@results183
abbrev QY:=@Value.slice.inj
abbrev QZ:=@results164
abbrev Q0:=@Addr.mk.injEq
abbrev Q2:=@ntmps161
abbrev Q3:=@List.countP_mono_left
abbrev Q9:=@List.countP_le_length
abbrev RB:=@Result.andThen_ok
abbrev RC:=@List.take_add_one
abbrev RH:=@List.ext_getElem?
abbrev RJ:=@Nat.mod_lt
abbrev RK:=@Below.alloc
abbrev RP:=@List.exists_cons_of_ne_nil
abbrev RQ:=@Array.getElem?_append_left
abbrev RU:=@results84
abbrev RV:=@results82
abbrev RY:=@List.map_toArray
abbrev RZ:=@sizeOf3
abbrev SD:=@sizeOf9
abbrev SE:=@func161
abbrev SF:=@Decidable.byContradiction
abbrev SH:=@World.ownsRow.cells
abbrev SJ:=@List.getElem_of_mem
abbrev SN:=@Bool.and_true
abbrev SS:=@Bool.true_and
abbrev SU:=@ntmps146
abbrev SV:=@Option.map_some
abbrev SW:=@heap_alloc2_new
abbrev SY:=@zeroValue4
abbrev TA:=@World.var?_cell
abbrev TB:=@Bool.false_eq_true
abbrev TC:=@List.set_cons_succ
abbrev TF:=@underlying101
abbrev TG:=@List.filter_append
abbrev TH:=@List.getElem?_cons_succ
abbrev TI:=@List.pairwise_singleton
abbrev TJ:=@isAgg3
abbrev TK:=@isAgg9
abbrev TM:=@func146
abbrev TN:=@Nat.lt_of_succ_lt
abbrev TO:=@ByteArray.size_extract
abbrev TP:=@callsIn_wide
abbrev TQ:=@sizeOf5
abbrev TT:=@UInt8.not_lt
abbrev TU:=@results80
abbrev TV:=@List.set_set
abbrev TW:=@World.frozen?_setCell
abbrev TX:=@ownsRow_setCell_other
abbrev TY:=@ownsRow_setCell_below
abbrev TZ:=@Nat.succ_le_succ
abbrev T0:=@underlying0
abbrev T1:=@zeroValue22
abbrev T3:=@List.flatMap_map
abbrev T8:=@List.getElem_map
abbrev T9:=@dif_pos
abbrev UA:=@List.take_set
abbrev UB:=@callsIn_of_wp
abbrev UC:=@ntmps139
abbrev UD:=@List.all_cons
abbrev UE:=@World.cell?_of_block
abbrev UF:=@List.set_append_left
abbrev UG:=@List.mem_of_mem_take
abbrev UH:=@isAgg5
abbrev UI:=@List.prefix_rfl
abbrev UJ:=@List.append_nil
abbrev UK:=@zeroValue0
abbrev UL:=@List.map_congr_left
abbrev UM:=@Int.toNat_of_nonneg
abbrev UN:=@List.dropWhile_cons
abbrev UO:=@Sem.run_bind
abbrev UR:=@Sem.run_pure
abbrev US:=@Nat.zero_mul
abbrev UT:=@Ne.symm
abbrev UU:=@sizeOf4
abbrev UV:=@func139
abbrev UW:=@List.all_nil
abbrev UX:=@underlying186
abbrev UY:=@List.prefix_append
abbrev UZ:=@underlying149
abbrev U0:=@underlying208
abbrev U2:=@underlying117
abbrev U3:=@underlying220
abbrev U4:=@grownCap_le_maxLen
abbrev U5:=@List.getElem?_take
abbrev U6:=@func90
abbrev U7:=@isAgg4
abbrev U8:=@ntmps107
abbrev U9:=@ntmps163
abbrev VA:=@ntmps133
abbrev VB:=@ntmps114
abbrev VC:=@sizeOf22
abbrev VE:=@Lib.alloc_old
abbrev VF:=@ntmps119
abbrev VG:=@Sum.inl.injEq
abbrev VH:=@ntmps104
abbrev VJ:=@if_false
abbrev VK:=@bne_iff_ne
abbrev VL:=@func3
theorem ly:n<=n:=Nat.le_refl n
theorem ae{p:Prop}(h:p):Hid p:=h
theorem nzL{c:Type}:(∀(l:List c) (i:Nat) (a:c),l.toArray.setIfInBounds i a=(l.set i a).toArray)/\(∀(a b:c) (l:List c),(a::l).set 0 b=b::l)/\∀(a b:c) (l:List c) (i:Nat),(a::l).set (i+1) b=a::l.set i b :=
 ⟨λ_ _ _=>List.setIfInBounds_toArray ..,λ_ _ _=>rfl,λ_ _ _ _=>rfl⟩
theorem IM (hb:Below W.heap.size W c):(∀b o,b<W.heap.size->A c (Q b o Y)=A W (Q b o Y))/\(∀b o,b<W.heap.size->c.frozen? (Q b o Y)=W.frozen? (Q b o Y)) :=
 ⟨λb o h=>hb.cell (p:=(Q b o Y)) h,λb o h=>hb.frozen (p:=(Q b o Y)) h⟩
theorem cell_far (w:M)(p a:Addr)(v:ZC)(h:p.block≠a.block):(w.setCell p v).cell? a=w.cell? a :=
 World.cell?_of_block (w:=w) (a:=a) (Below.heap_setCell w p v a.block (λe=>h e.symm))
theorem cF{a b:Bool}(h:a=b):Ending.returned (ZD a)=ZF (ZD b):=by rw[h]
theorem gw{a b:ByteArray}(h:a=b):Ending.returned (U a)=ZF (U b):=by rw[h]
theorem ja (h:s.size=0):s=⟨#[]⟩:=by obtain⟨a⟩:=s;have:a.size=0:=h;rw[Array.eq_empty_of_size_eq_zero this]
theorem iR (h:¬ s.size=0):¬ s.toList=[]:=by
 intro e;have h2:s.toList.length=s.size:=by rw[ByteArray.toList_eq];rfl
 rw[e] at h2;simp at h2;omega
theorem nb1{c:Array ZC}{s:ZH}(h:w.alloc (N c s)=W):Hid (Below w.heap.size w W)/\Hid (W.heap[w.heap.size]?=T (N c s (0,0)))/\W.heap.size=w.heap.size+1:=by subst h;exact⟨(Below.refl w.heap.size w).alloc (Nat.le_refl _) _,heap_alloc_new w _,by simp⟩
theorem nb2{c d:Array ZC}{s:ZH}(h:(w.alloc (N c s)).alloc (N d t)=W):Hid (Below w.heap.size w W)/\Hid (W.heap[w.heap.size]?=T (N c s (0,0)))/\Hid (W.heap[w.heap.size+1]?=T (N d t (0,0)))/\W.heap.size=w.heap.size+2:=by obtain⟨ZR,K,z⟩:=nb1 (w:=w) (c:=c) (s:=s) rfl;obtain⟨B,ZO,y⟩:=nb1 h;rw[z] at B ZO y;exact⟨Below.trans ZR.out (B.out.mono (by omega)),(B.out.block _ (by omega)).trans K.out,ZO,y⟩
theorem nb3{c d f:Array ZC}{s u:ZH}(h:((w.alloc (N c s)).alloc (N d t)).alloc (N f u)=W):Hid (Below w.heap.size w W)/\Hid (W.heap[w.heap.size]?=T (N c s (0,0)))/\Hid (W.heap[w.heap.size+1]?=T (N d t (0,0)))/\Hid (W.heap[w.heap.size+2]?=T (N f u (0,0)))/\W.heap.size=w.heap.size+3:=by obtain⟨ZR,K,L,z⟩:=nb2 (w:=w) (c:=c) (d:=d) (s:=s) (t:=t) rfl;obtain⟨B,ZO,y⟩:=nb1 h;rw[z] at B ZO y;exact⟨Below.trans ZR.out (B.out.mono (by omega)),(B.out.block _ (by omega)).trans K.out,(B.out.block _ (by omega)).trans L.out,ZO,y⟩
theorem al3 (h:∀j,P j):P 0/\P 1/\P 2:=⟨h 0,h 1,h 2⟩
theorem al6 (h:∀j,P j):P 0/\P 1/\P 2/\P 3/\P 4/\P 5:=⟨h 0,h 1,h 2,h 3,h 4,h 5⟩
theorem bl6 (h:∀j,j<6->P j):P 0/\P 1/\P 2/\P 3/\P 4/\P 5:=⟨h 0 (by decide),h 1 (by decide),h 2 (by decide),h 3 (by decide),h 4 (by decide),h 5 (by decide)⟩
structure Ins where
 op:Int
 s:ByteArray
 n:Int
def AtIns (w:M)(b off i:Nat)(x:Ins):Prop :=
 A w (Q b (off+i*3) Y)=T (J I x.op)/\A w (Q b (off+i*3+1) Y)=T (U x.s)/\A w (Q b (off+i*3+2) Y)=T (J I x.n)
theorem AtIns.aa{x:Ins}(h:AtIns w b off i x)(hb:Below B w f)(c:b<B):AtIns f b off i x :=
 ⟨(hb.cell (p:=(Q b _ Y)) c).trans h.1,(hb.cell (p:=(Q b _ Y)) c).trans h.2.1,(hb.cell (p:=(Q b _ Y)) c).trans h.2.2⟩
def RowIns (w:M)(b off n:Nat)(f:Nat->Ins):Prop:=b<w.heap.size/\∀i,i<n->AtIns w b off i (f i)
theorem RowIns.aa{f:Nat->Ins}(h:RowIns w b off n f)(hb:Below B w c)(g:w.heap.size<=B):RowIns c b off n f :=
 ⟨Nat.lt_of_lt_of_le h.1 hb.size,λi hi=>(h.2 i hi).aa hb (Nat.lt_of_lt_of_le h.1 g)⟩
def SlIns (w:M)(a:Option Addr)(n:Nat)(f:Nat->Ins):Prop:=n=0∨∃b off,a=T (Q b off Y)/\RowIns w b off n f
theorem SlIns.aa{f:Nat->Ins}(h:SlIns w a n f)(hb:Below B w c)(i:w.heap.size<=B):SlIns c a n f:=by
 rcases h with h|⟨b,off,j,g⟩
 {exact .inl h};{exact .inr ⟨b,off,j,g.aa hb i⟩}
theorem RowIns.sl{f:Nat->Ins}(h:RowIns w b off n f):SlIns w (T (Q b off Y)) n f:=.inr ⟨b,off,rfl,h⟩
theorem kU:(Pg.info? 90).map (λi=>(i.zero,i.size,i.bytes))=T (T (.agg #[J I 0,U ⟨#[]⟩,J I 0]),3,32):=by kernel_rfl
def word:Int->List UInt8
 |1=>[108,105,116]|2=>[99,97,116]|3=>[99,117,116]|4=>[114,101,115,116]|5=>[119,111,114,100]|6=>[115,97,109,101]|7=>[100,117,112]|8=>[115,119,97,112]|9=>[100,114,111,112]
 |10=>[106,117,109,112]|11=>[117,110,108,101,115,115]|12=>[97,115,107]|13=>[104,97,115]|14=>[102,97,105,108]|15=>[101,110,100]|_=>[]
def kind:Int->Int
 |1=>1|3=>2|4=>2|5=>2|10=>3|11=>3|_=>0
theorem xP (op:Int)(w:M):Calls Pg 99 #[J I op] w λe g=>e=ZF (.tuple #[U ⟨(word op).toArray⟩,J I (kind op)])/\g=w:=by
 by_cases h:1<=op/\op<=15
 ·have f:op=1∨op=2∨op=3∨op=4∨op=5∨op=6∨op=7∨op=8∨op=9∨op=10∨op=11∨op=12∨op=13∨op=14∨op=15:=by omega
  clear h;rcases f with rfl|rfl|rfl|rfl|rfl|rfl|rfl|rfl|rfl|rfl|rfl|rfl|rfl|rfl|rfl;all_goals
   go_enter func99,ntmps99;go_wp2;go_ret2;exact⟨rfl,rfl⟩
 ·have c:word op=[]:=by
   unfold word;split<;>first|omega|rfl
  have b:kind op=0:=by unfold kind;split<;>first|omega|rfl
  rw[c,b];clear c b;rcases(show op<1∨15<op by omega) with h|h;all_goals
   go_enter func99,ntmps99;go_wp2;go_ret2;exact⟨rfl,rfl⟩
def aF (op:Int):Int:=if op=1 then 2000 else 0
def bN (op:Int):Int:=if op=3∨op=4∨op=5 then 2000 else if op=10∨op=11 then 200 else 0
def aG (op:Int)(sz:Nat)(n:Int):Bool:=decide (1<=op/\op<=15/\(sz:Int)<=aF op/\0<=n/\n<=bN op)
theorem xQ (op:Int)(s:ByteArray)(n:Int)(w:M)(b:s.size<=maxLen)(hz:¬ s.toList=[])(h0:0<s.size):Calls Pg 107 #[.agg #[J I op,U s,J I n]] w λe f=>e=ZF (ZD (aG op s.size n))/\Below w.heap.size w f:=by
 unfold maxLen at b;by_cases h:1<=op/\op<=15
 ·have c:op=1∨op=2∨op=3∨op=4∨op=5∨op=6∨op=7∨op=8∨op=9∨op=10∨op=11∨op=12∨op=13∨op=14∨op=15:=by omega
  clear h;rcases c with rfl|rfl|rfl|rfl|rfl|rfl|rfl|rfl|rfl|rfl|rfl|rfl|rfl|rfl|rfl;all_goals
   go_enter func107,ntmps107;go_wp2;all_goals go_ret
   all_goals refine⟨cF ?_,(Below.refl _ _).alloc (Nat.le_refl _) _⟩
   all_goals (rw[Bool.eq_iff_iff];generalize s.size=z at *;simp[aG,aF,bN];try omega)
 ·rcases(show op<1∨15<op by omega) with h|h;all_goals
   go_enter func107,ntmps107;go_wp2;go_ret;refine⟨cF ?_,(Below.refl _ _).alloc (Nat.le_refl _) _⟩;rw[Bool.eq_iff_iff];simp[aG];omega
theorem xR (op:Int)(n:Int)(w:M):Calls Pg 107 #[.agg #[J I op,U ⟨#[]⟩,J I n]] w λe c=>e=ZF (ZD (aG op 0 n))/\Below w.heap.size w c:=by
 by_cases h:1<=op/\op<=15
 ·have b:op=1∨op=2∨op=3∨op=4∨op=5∨op=6∨op=7∨op=8∨op=9∨op=10∨op=11∨op=12∨op=13∨op=14∨op=15:=by omega
  clear h;rcases b with rfl|rfl|rfl|rfl|rfl|rfl|rfl|rfl|rfl|rfl|rfl|rfl|rfl|rfl|rfl;all_goals
   go_enter func107,ntmps107;go_wp2;all_goals go_ret
   all_goals refine⟨cF ?_,(Below.refl _ _).alloc (Nat.le_refl _) _⟩
   all_goals (rw[Bool.eq_iff_iff];simp[aG,aF,bN];try omega)
 ·rcases(show op<1∨15<op by omega) with h|h;all_goals
   go_enter func107,ntmps107;go_wp2;go_ret;refine⟨cF ?_,(Below.refl _ _).alloc (Nat.le_refl _) _⟩;rw[Bool.eq_iff_iff];simp[aG];omega
theorem iG (op:Int)(s:ByteArray)(n:Int)(w:M)(b:s.size<=maxLen):Calls Pg 107 #[.agg #[J I op,U s,J I n]] w λe c=>e=ZF (ZD (aG op s.size n))/\Below w.heap.size w c:=by
 by_cases h:s.size=0;{have e:=ja h;subst e;exact xR op n w};{exact xQ op s n w b (iR h) (by omega)}
theorem xS (k:Nat)(s:ByteArray)(n c b:Int)(w:M)(h1:1<=(k:Int))(h2:(k:Int)<=15)
  (hT:A w (Q 1 (k*5+1) Y)=T (J I c)) (hN:A w (Q 1 (k*5+2) Y)=T (J I b)) (hz:1<w.heap.size)
  (ht:(s.size:Int)<=c) (hn:0<=n) :
  Calls Pg 163 #[.agg #[J I k,U s,J I n]] w λe f=>e=ZF (ZD (decide (n<=b)))/\Below w.heap.size w f:=by
 go_enter func163,ntmps163;go_wp2;go_quiet (fail);go_wp2;go_ret;exact⟨rfl,below_drewN ((Below.refl _ _).alloc (Nat.le_refl _) _) _⟩
theorem xT (k:Nat)(s:ByteArray)(n b:Int)(w:M)(h1:1<=(k:Int))(h2:(k:Int)<=15)
  (hT:A w (Q 1 (k*5+1) Y)=T (J I b)) (hz:1<w.heap.size)
  (ht:(s.size:Int)<=b) (hn:n<0) :
  Calls Pg 163 #[.agg #[J I k,U s,J I n]] w λe c=>e=ZF (ZD ZA)/\Below w.heap.size w c:=by
 have hd:decide (0<=n)=ZA:=by simp;omega
 go_enter func163,ntmps163;go_wp2;go_quiet (fail);go_wp2;go_ret;exact⟨rfl,below_drewN ((Below.refl _ _).alloc (Nat.le_refl _) _) _⟩
theorem xU (k:Nat)(s:ByteArray)(n b:Int)(w:M)(h1:1<=(k:Int))(h2:(k:Int)<=15)
  (hT:A w (Q 1 (k*5+1) Y)=T (J I b)) (hz:1<w.heap.size)
  (ht:b<(s.size:Int)) :
  Calls Pg 163 #[.agg #[J I k,U s,J I n]] w λe c=>e=ZF (ZD ZA)/\Below w.heap.size w c:=by
 have hd:decide ((s.size:Int)<=b)=ZA:=by simp;omega
 go_enter func163,ntmps163;go_wp2;go_quiet (fail);go_wp2;go_ret;exact⟨rfl,below_drewN ((Below.refl _ _).alloc (Nat.le_refl _) _) _⟩
theorem xV (op:Int)(s:ByteArray)(n:Int)(w:M)(h:op<1∨15<op):Calls Pg 163 #[.agg #[J I op,U s,J I n]] w λe b=>e=ZF (ZD ZA)/\Below w.heap.size w b:=by
 rcases h with h|h;all_goals
  go_enter func163,ntmps163;go_wp2;go_ret;exact⟨rfl,(Below.refl _ _).alloc (Nat.le_refl _) _⟩
def Tab (w:M):Prop:=1<w.heap.size/\∀k:Nat,k<16->A w (Q 1 (k*5+1) Y)=T (J I (aF k))/\A w (Q 1 (k*5+2) Y)=T (J I (bN k))
theorem gK (op:Int)(s:ByteArray)(n:Int)(w:M)(c:Tab w):Calls Pg 163 #[.agg #[J I op,U s,J I n]] w λe j=>e=ZF (ZD (aG op s.size n))/\Below w.heap.size w j:=by
 by_cases h:1<=op/\op<=15;{obtain⟨k,rfl⟩:=Int.eq_ofNat_of_zero_le (show 0<=op by omega);obtain⟨h1,h2⟩:=h;obtain⟨f,i⟩:=c.2 k (by omega);by_cases b:(s.size:Int)<=aF k;{by_cases hn:0<=n;{have e:aG (k:Int) s.size n=decide (n<=bN k):=(by unfold aG;rw[Bool.eq_iff_iff,decide_eq_true_eq,decide_eq_true_eq];exact⟨λh=>h.2.2.2.2,λh=>⟨h1,h2,b,hn,h⟩⟩);rw[e];exact xS k s n _ _ w h1 h2 f i c.1 b hn};{have e:aG (k:Int) s.size n=ZA:=(by unfold aG;rw[decide_eq_false_iff_not];exact λh=>hn h.2.2.2.1);rw[e];exact xT k s n _ w h1 h2 f c.1 b (by omega)}};{have e:aG (k:Int) s.size n=ZA:=(by unfold aG;rw[decide_eq_false_iff_not];exact λh=>b h.2.2.1);rw[e];exact xU k s n _ w h1 h2 f c.1 (by omega)}};{have e:aG op s.size n=ZA:=(by unfold aG;rw[decide_eq_false_iff_not];exact λg=>h ⟨g.1,g.2.1⟩);rw[e];exact xV op s n w (by omega)}
def dA (f:Nat->Ins):Nat->Bool
 |0=>ZG
 |k+1=>dA f k && aG (f k).op (f k).s.size (f k).n
theorem rj{f:Nat->Ins}{k:Nat}(h:k<=n)(hn:dA f n=ZG):dA f k=ZG:=by
 induction n with
 |zero =>
  obtain rfl:k=0:=by omega
  exact hn
 |succ m b =>
  by_cases e:k=m+1;{subst e;exact hn};{simp only[dA,Bool.and_eq_true] at hn;exact b (by omega) hn.1}
theorem pj{f:Nat->Ins}{k:Nat}(h:k<n)(b:aG (f k).op (f k).s.size (f k).n=ZA):dA f n=ZA:=by
 cases e:dA f n with
 |false=>rfl
 |true =>have h2:=rj (show k+1<=n by omega) e;simp[dA,b] at h2
def valid (f:Nat->Ins)(n:Nat):Bool:=dA f n && decide (1<=(n:Int)/\(n:Int)<=200)
theorem bO{f:Nat->Ins}(h:valid f n=ZG):dA f n=ZG/\1<=(n:Int)/\(n:Int)<=200:=by unfold valid at h;rw[Bool.and_eq_true,decide_eq_true_eq] at h;exact h
theorem gL{f:Nat->Ins}{k:Nat}(h:dA f n=ZG)(hk:k<n):aG (f k).op (f k).s.size (f k).n=ZG:=by have:=rj (show k+1<=n by omega) h;simp only[dA,Bool.and_eq_true] at this;exact this.2
theorem fV (b off n cap:Nat)(f:Nat->Ins)(w:M)(hn:n<=1048576)(hb:b<w.heap.size)(u:∀i,i<n->AtIns w b off i (f i))(t:∀i,i<n->(f i).s.size<=maxLen):Calls Pg 115 #[.agg #[Z (T (Q b off Y)) n cap]] w λe y=>e=ZF (ZD (valid f n))/\Below w.heap.size w y:=by
 have B:=ae u;have z:=ae t;clear u t;go_enter func115,ntmps115;go_wp2;go_loopw [3] (λi wr=>∃k:Nat,k<=n/\i=J I k/\dA f k=ZG/\Below (w.heap.size+1) (w.alloc (N #[Z (T (Q b off Y)) n cap] 59)) wr) (λi _=>n - (intOf i).toNat);case atStart=>exact⟨0,by omega,rfl,rfl,Below.refl _ _⟩
 case round =>
  obtain⟨k,hk,rfl,j,g⟩:=hrel;have ZR:=ae g;have r:=ae j;have q:A wr (Q w.heap.size 0 Y)=T (Z (T (Q b off Y)) n cap):=by rw[g.cell (p:=(Q w.heap.size 0 Y)) (by simp)];simp
  have h:Hid (Below w.heap.size w wr):=((Below.refl _ _).alloc (Nat.le_refl _) _).trans (g.mono (by omega));have x:w.heap.size+1<=wr.heap.size:=by have:=g.size;simpa using this
  clear g j;by_cases c:k<n
  ·obtain⟨c0,c1,c2⟩:=(B k c).aa h hb;go_wp2_with fail;refine(iG _ _ _ _ (z k c)).mono ?_;rintro e y ⟨rfl,l⟩;have m:=ae l;clear l c0 c1 c2 q;cases hi:aG (f k).op (f k).s.size (f k).n with
   |false =>have o:=ae hi;clear hi;go_wp2;go_ret;refine⟨cF ?_,h.trans (m.mono h.size)⟩;simp[valid,pj c o.out]
   |true =>have o:=ae hi;clear hi;go_wp2;exact⟨⟨k+1,by omega,by go_num,by simp[dA,r.out,o.out],ZR.trans (m.mono x)⟩,by simp[intOf];omega⟩
  ·have e:k=n:=by omega
   subst e;by_cases h1:1<=(k:Int)
   all_goals
    go_wp2;go_ret;refine⟨cF ?_,h⟩;rw[Bool.eq_iff_iff];simp[valid,r.out];try omega
theorem Tab.aa (h:Tab w)(hb:Below B w f)(c:1<B):Tab f :=
 ⟨Nat.lt_of_lt_of_le h.1 hb.size,λk b=>⟨(hb.cell (p:=(Q 1 _ Y)) c).trans (h.2 k b).1,(hb.cell (p:=(Q 1 _ Y)) c).trans (h.2 k b).2⟩⟩
theorem mC (a:Option Addr)(n cap:Nat)(f:Nat->Ins)(w:M)(hn:n<=1048576)(h:(n:Int)<1∨200<(n:Int)):Calls Pg 148 #[.agg #[Z a n cap]] w λe b=>e=ZF (ZD (valid f n))/\Below w.heap.size w b:=by
 have e:valid f n=ZA:=by unfold valid;rw[show decide (1<=(n:Int)/\(n:Int)<=200)=ZA by simp;omega,Bool.and_false]
 rw[e];clear e;rcases h with h|h;all_goals
  go_enter func148,ntmps148;go_wp2;go_ret;exact⟨rfl,(Below.refl _ _).alloc (Nat.le_refl _) _⟩
theorem sD (b off n cap:Nat)(f:Nat->Ins)(w:M)(h1:1<=(n:Int))(h2:(n:Int)<=200)(hb:b<w.heap.size)(y:∀i,i<n->AtIns w b off i (f i))(q:Tab w):Calls Pg 148 #[.agg #[Z (T (Q b off Y)) n cap]] w λe r=>e=ZF (ZD (valid f n))/\Below w.heap.size w r:=by
 have z:=ae y;have ZR:=ae q;have t:=q.1;have x:Hid (valid f n=dA f n):=by show valid f n=dA f n;unfold valid;rw[show decide (1<=(n:Int)/\(n:Int)<=200)=ZG by simp;omega,Bool.and_true]
 clear y q;go_enter func148,ntmps148;go_wp2;go_loopw [18] (λi wr=>∃k:Nat,k<=n/\i=J I k/\dA f k=ZG/\Below w.heap.size w wr) (λi _=>n - (intOf i).toNat);case atStart=>exact⟨0,by omega,rfl,rfl,(Below.refl _ _).alloc (Nat.le_refl _) _⟩
 case round =>
  obtain⟨k,hk,rfl,g,o⟩:=hrel;have c:=ae o;have u:=ae g;have m:w.heap.size<=wr.heap.size:=o.size;clear o g;by_cases j:k<n
  ·obtain⟨c0,c1,c2⟩:=(z k j).aa c hb;go_wp2_with fail;refine(gK _ _ _ _ (ZR.aa (c.alloc m _) t)).mono ?_;rintro e r ⟨rfl,h⟩;have l:Hid (Below w.heap.size w r):=(c.alloc m _).trans (h.mono (by simp;omega));clear h c0 c1 c2;cases hi:aG (f k).op (f k).s.size (f k).n with
   |false =>have p:=ae hi;clear hi;go_wp2;go_ret;refine⟨cF ?_,l⟩;rw[x.out,pj j p.out]
   |true =>have p:=ae hi;clear hi;go_wp2;exact⟨⟨k+1,by omega,by go_num,by simp[dA,u.out,p.out],l⟩,by simp[intOf];omega⟩
  ·have e:k=n:=by omega
   subst e;go_wp2;go_ret;exact⟨cF (by rw[x.out,u.out]),c.out⟩
theorem sE (b off n cap:Nat)(f:Nat->Ins)(w:M)(hn:n<=1048576)(hb:b<w.heap.size)(g:∀i,i<n->AtIns w b off i (f i))(c:Tab w):Calls Pg 148 #[.agg #[Z (T (Q b off Y)) n cap]] w λe j=>e=ZF (ZD (valid f n))/\Below w.heap.size w j:=by
 by_cases h:(n:Int)<1∨200<(n:Int)
 {exact mC _ n cap f w hn h};{exact sD b off n cap f w (by omega) (by omega) hb g c}
structure Only (b:Nat)(w w':M):Prop where
 os:w'.os=w.os
 tape:w'.tape=w.tape
 output:w'.output=w.output
 size:w.heap.size<=w'.heap.size
 block:∀k,k<w.heap.size->k≠b->w'.heap[k]?=w.heap[k]?
 ty:∀cs t fz,w.heap[b]?=T (N cs t fz)->∃cs',w'.heap[b]?=T (N cs' t fz)
theorem Only.refl (b:Nat)(w:M):Only b w w:=⟨rfl,rfl,rfl,Nat.le_refl _,λ_ _ _=>rfl,λc _ _ h=>⟨c,h⟩⟩
theorem ah{o:Obj}(h:w.heap[i]?=T o):i<w.heap.size:=by
 rcases Nat.lt_or_ge i w.heap.size with b|b;{exact b};{rw[Array.getElem?_eq_none b] at h;cases h}
theorem cy{j:Nat}{c:Array ZC}{fz:Nat × Nat}(h:w.heap[b]?=T (N c t fz))(v:ZC):(w.setCell (Q b j Y) v).heap[b]?=T (N (c.setIfInBounds j v) t fz):=by simp only[World.setCell,Array.getElem?_modify,if_pos,h,Option.map_some];rfl
theorem Only.trans{u v:M}(h:Only b u v)(k:Only b v w):Only b u w :=
 ⟨k.os.trans h.os,k.tape.trans h.tape,k.output.trans h.output,Nat.le_trans h.size k.size,λi hi c=>(k.block i (Nat.lt_of_lt_of_le hi h.size) c).trans (h.block i hi c),λf t fz hb=>let ⟨cs1,h1⟩:=h.ty f t fz hb;k.ty cs1 t fz h1⟩
theorem Only.u (h:Below w.heap.size w c):Only b w c:=⟨h.os,h.tape,h.output,h.size,λi hi _=>h.block i hi,λf _ _ hb=>⟨f,(h.block b (ah hb)).trans hb⟩⟩
theorem Only.aa (h:Only b w c)(hB:B<=b)(hw:B<=w.heap.size):Below B w c:=⟨h.os,h.tape,h.output,h.size,λk hk=>h.block k (by omega) (by omega)⟩
theorem Only.cell (h:Only b w c)(k o:Nat)(f:k<w.heap.size)(hb:k≠b):A c (Q k o Y)=A w (Q k o Y):=World.cell?_of_block (w:=w) (a:=(Q k o Y)) (h.block k f hb)
theorem ip{a:M}(h:Only b a w)(j:Nat)(v:ZC):Only b a (w.setCell (Q b j Y) v) :=
 h.trans ⟨rfl,rfl,rfl,by simp[World.setCell],λk _ c=>Below.heap_setCell _ _ _ _ (by simpa using c),λ_ _ _ hb=>⟨_,cy hb v⟩⟩
theorem Hm{P:Program}{fn:Func}{R:Ending->M->Prop}{a:Act}(b:fn.results=#[])(c:a.defers=[])(hR:R (ZF (.tuple #[])) w):bodyPost P fn R .ret a w :=
 bodyPost_ret (v:=.tuple #[]) (by simp[results,b]) c hR
structure Turn where
 over:Bool
 B:Int
 h:ByteArray
 ask:Bool
 e:ByteArray
 steps:Int
def Turn.v (t:Turn):ZC:=.agg #[ZD t.over,J I t.B,U t.h,ZD t.ask,U t.e,J I t.steps]
def zK:Turn:=⟨ZA,0,⟨#[]⟩,ZA,⟨#[]⟩,0⟩
structure Mst where
 S:Nat->ByteArray
 size:Nat
 place:Int
 steps:Int
 looks:Int
 t:Turn
def aZ (k:Nat):Nat:=if k=2∨k=6∨k=8 then 2 else if k=0∨k=1∨k=10∨15<k then 0 else 1
def cu (k:Nat):Nat:=if k=7∨k=8 then 2 else if k=0∨k=9∨k=10∨k=11∨13<k then 0 else 1
def dJ (s:ByteArray):Nat->Bool
 |0=>ZG
 |k+1=>dJ s k && (match s.data[k]? with|some c=>decide (33<=c.toNat/\c.toNat<=126)|none=>ZA)
def aw (s:ByteArray):Bool:=decide (1<=s.size/\s.size<=60) && dJ s s.size
theorem nO{k:Nat}(h:k<=n)(hn:dJ s n=ZG):dJ s k=ZG:=by
 induction n with
 |zero =>
  obtain rfl:k=0:=by omega
  exact hn
 |succ m b =>
  by_cases e:k=m+1;{subst e;exact hn};{simp only[dJ,Bool.and_eq_true] at hn;exact b (by omega) hn.1}
theorem kC{k:Nat}(h:k<s.size):dJ s (k+1)=(dJ s k && decide (33<=s[k].toNat/\s[k].toNat<=126)):=by
 have e:s.data[k]?=T s[k]:=by rw[Array.getElem?_eq_getElem h];rfl
 rw[dJ,e]
theorem gN{k:Nat}(h:k<s.size)(hk:¬ (33<=s[k].toNat/\s[k].toNat<=126)):dJ s s.size=ZA:=by
 cases e:dJ s s.size with
 |false=>rfl
 |true =>have h2:=nO (show k+1<=s.size by omega) e;rw[kC h] at h2;simp at h2;omega
theorem sZ (s:ByteArray)(w:M)(F:Nat)(hF:(True/\F=146)∨F=72):Calls Pg F #[U s] w λe m=>e=ZF (ZD (aw s))/\Below w.heap.size w m:=by
 by_cases h1:1<=(s.size:Int)/\(s.size:Int)<=60
 ·have g:Hid (aw s=dJ s s.size):=by
   show aw s=dJ s s.size;unfold aw;rw[show decide (1<=s.size/\s.size<=60)=ZG by simp;omega,Bool.true_and]
  obtain⟨h1,h2⟩:=h1;rcases hF with ⟨ZQ,rfl⟩|rfl;all_goals
   first|(guard_hyp ZQ;go_enter func146,ntmps146)|go_enter func72,ntmps72
   go_wp2;first|(guard_hyp ZQ;go_loopw [14] (λi wr=>∃k:Nat,k<=s.size/\i=J I k/\dJ s k=ZG/\Below w.heap.size w wr) (λi _=>s.size - (intOf i).toNat))|go_loopw [3] (λi wr=>∃k:Nat,k<=s.size/\i=J I k/\dJ s k=ZG/\Below w.heap.size w wr) (λi _=>s.size - (intOf i).toNat)
   case atStart=>exact⟨0,by omega,rfl,rfl,Below.refl _ _⟩
   case round =>
    obtain⟨k,hk,rfl,f,l⟩:=hrel;have c:=ae l;have j:=ae f;clear l f;by_cases b:k<s.size
    ·by_cases p1:33<=(s[k].toNat:Int)
     ·by_cases p2:(s[k].toNat:Int)<=126
      ·go_wp2
       exact⟨⟨k+1,by omega,by go_num,by rw[kC b,j.out];simp;omega,c⟩,by simp[intOf];omega⟩
      ·go_wp2
       go_ret;exact⟨cF (by rw[g.out,gN b (by omega)]),c⟩
     ·go_wp2
      go_ret;exact⟨cF (by rw[g.out,gN b (by omega)]),c⟩
    ·have e:k=s.size:=by omega
     subst e;go_wp2;go_ret;exact⟨cF (by rw[g.out,j.out]),c.out⟩
 ·rw[show aw s=ZA by unfold aw;rw[show decide (1<=s.size/\s.size<=60)=ZA by simp;omega,Bool.false_and]];by_cases h2:1<=(s.size:Int)
  ·have h3:¬ (s.size:Int)<=60:=λh=>h1 ⟨h2,h⟩;clear h1;rcases hF with ⟨ZQ,rfl⟩|rfl;all_goals
    first|(guard_hyp ZQ;go_enter func146,ntmps146)|go_enter func72,ntmps72
    go_wp2;go_ret;exact⟨rfl,Below.refl _ _⟩
  ·clear h1;rcases hF with ⟨ZQ,rfl⟩|rfl;all_goals
    first|(guard_hyp ZQ;go_enter func146,ntmps146)|go_enter func72,ntmps72
    go_wp2;go_ret;exact⟨rfl,Below.refl _ _⟩
abbrev jl (s:ByteArray)(w:M):=sZ s w _ (.inl ⟨trivial,rfl⟩)
abbrev cZ (s:ByteArray)(w:M):=sZ s w _ (.inr rfl)
structure aK where
 has:Bool
 B:Int
 h:ByteArray
def AtReply (w:M)(b off i:Nat)(x:aK):Prop :=
 A w (Q b (off+i*3) Y)=T (ZD x.has)/\A w (Q b (off+i*3+1) Y)=T (J I x.B)/\A w (Q b (off+i*3+2) Y)=T (U x.h)
theorem AtReply.aa{x:aK}(h:AtReply w b off i x)(hb:Below B w f)(c:b<B):AtReply f b off i x :=
 ⟨(hb.cell (p:=(Q b _ Y)) c).trans h.1,(hb.cell (p:=(Q b _ Y)) c).trans h.2.1,(hb.cell (p:=(Q b _ Y)) c).trans h.2.2⟩
def RowReply (w:M)(b off n:Nat)(f:Nat->aK):Prop:=b<w.heap.size/\∀i,i<n->AtReply w b off i (f i)
theorem RowReply.aa{f:Nat->aK}(h:RowReply w b off n f)(hb:Below B w c)(g:w.heap.size<=B):RowReply c b off n f :=
 ⟨Nat.lt_of_lt_of_le h.1 hb.size,λi hi=>(h.2 i hi).aa hb (Nat.lt_of_lt_of_le h.1 g)⟩
structure Source where
 e:ByteArray
 h:ByteArray
def AtSource (w:M)(b off i:Nat)(x:Source):Prop :=
 A w (Q b (off+i*2) Y)=T (U x.e)/\A w (Q b (off+i*2+1) Y)=T (U x.h)
theorem AtSource.aa{x:Source}(h:AtSource w b off i x)(hb:Below B w f)(c:b<B):AtSource f b off i x :=
 ⟨(hb.cell (p:=(Q b _ Y)) c).trans h.1,(hb.cell (p:=(Q b _ Y)) c).trans h.2⟩
def RowSource (w:M)(b off n:Nat)(f:Nat->Source):Prop:=b<w.heap.size/\∀i,i<n->AtSource w b off i (f i)
theorem RowSource.aa{f:Nat->Source}(h:RowSource w b off n f)(hb:Below B w c)(g:w.heap.size<=B):RowSource c b off n f :=
 ⟨Nat.lt_of_lt_of_le h.1 hb.size,λi hi=>(h.2 i hi).aa hb (Nat.lt_of_lt_of_le h.1 g)⟩
def SlSource (w:M)(a:Option Addr)(n:Nat)(f:Nat->Source):Prop:=n=0∨∃b off,a=T (Q b off Y)/\RowSource w b off n f
theorem SlSource.aa{f:Nat->Source}(h:SlSource w a n f)(hb:Below B w c)(i:w.heap.size<=B):SlSource c a n f:=by
 rcases h with h|⟨b,off,j,g⟩
 {exact .inl h};{exact .inr ⟨b,off,j,g.aa hb i⟩}
theorem lv:(Pg.info? 122).map (λi=>(i.zero,i.size,i.bytes))=T (T (.agg #[U ⟨#[]⟩,U ⟨#[]⟩]),2,32):=by kernel_rfl
structure Target where
 e:ByteArray
 f:Nat
 G:Nat->Ins
def cR (x:Target):Prop:=x.f<=1048576
def AtTarget (w:M)(b off i:Nat)(x:Target):Prop :=
 A w (Q b (off+i*2) Y)=T (U x.e)/\(∃a cap,A w (Q b (off+i*2+1) Y)=T (Z a x.f cap)/\SlIns w a x.f x.G)
theorem AtTarget.aa{j:M}{x:Target}(h:AtTarget w b off i x)(hb:Below B w j)(c:w.heap.size<=B)(g:b<w.heap.size):AtTarget j b off i x:=by obtain⟨m,⟨a0,f,l,r0⟩⟩:=h;refine⟨(hb.cell (p:=(Q b _ Y)) (Nat.lt_of_lt_of_le g c)).trans m,⟨a0,f,(hb.cell (p:=(Q b _ Y)) (Nat.lt_of_lt_of_le g c)).trans l,r0.aa hb c⟩⟩
def RowTarget (w:M)(b off n:Nat)(f:Nat->Target):Prop:=b<w.heap.size/\∀i,i<n->AtTarget w b off i (f i)
theorem RowTarget.aa{f:Nat->Target}(h:RowTarget w b off n f)(hb:Below B w c)(g:w.heap.size<=B):RowTarget c b off n f :=
 ⟨Nat.lt_of_lt_of_le h.1 hb.size,λi hi=>(h.2 i hi).aa hb g h.1⟩
def SlTarget (w:M)(a:Option Addr)(n:Nat)(f:Nat->Target):Prop:=n=0∨∃b off,a=T (Q b off Y)/\RowTarget w b off n f
theorem SlTarget.aa{f:Nat->Target}(h:SlTarget w a n f)(hb:Below B w c)(i:w.heap.size<=B):SlTarget c a n f:=by
 rcases h with h|⟨b,off,j,g⟩
 {exact .inl h};{exact .inr ⟨b,off,j,g.aa hb i⟩}
theorem gO:(Pg.info? 125).map (λi=>(i.zero,i.size,i.bytes))=T (T (.agg #[U ⟨#[]⟩,Z Y 0 0]),2,40):=by kernel_rfl
def ti (w:M)(b off n:Nat)(f:Nat->ByteArray):Prop:=b<w.heap.size/\∀i,i<n->A w (Q b (off+i) Y)=T (U (f i))
theorem lw:(Pg.info? 9).map (λi=>(i.zero,i.size,i.bytes))=T (T (U ⟨#[]⟩),1,16):=by kernel_rfl
theorem xW (f:Nat->Ins):valid f 0=ZA:=by simp[valid]
theorem tj (a:Option Addr)(n cap:Nat)(f:Nat->Ins)(w:M)(hn:n<=1048576)(h:SlIns w a n f)(g:Tab w):Calls Pg 148 #[.agg #[Z a n cap]] w λe i=>e=ZF (ZD (valid f n))/\Below w.heap.size w i:=by
 rcases h with rfl|⟨b,off,rfl,c⟩
 {exact mC a 0 cap f w (by omega) (by simp)};{exact sE b off n cap f w hn c.1 c.2 g}
theorem sF (a:Option Addr)(cap:Nat)(f:Nat->Ins)(w:M):Calls Pg 115 #[.agg #[Z a 0 cap]] w λe c=>e=ZF (ZD (valid f 0))/\Below w.heap.size w c:=by
 rw[xW];have b:=ae ((Below.refl w.heap.size w).alloc (Nat.le_refl _) (N #[Z a 0 cap] 59));go_enter func115,ntmps115;go_wp2;go_loop [3] (λi=>i=J I 0) (λ_=>0);case atStart=>rfl
 case round =>subst hrel;go_wp2;go_ret;exact⟨rfl,b⟩
theorem jB (a:Option Addr)(n cap:Nat)(f:Nat->Ins)(w:M)(hn:n<=1048576)(h:SlIns w a n f)(g:∀i,i<n->(f i).s.size<=maxLen):Calls Pg 115 #[.agg #[Z a n cap]] w λe j=>e=ZF (ZD (valid f n))/\Below w.heap.size w j:=by
 rcases h with rfl|⟨b,off,rfl,c⟩
 {exact sF a cap f w};{exact fV b off n cap f w hn c.1 c.2 g}
structure Link where
 e:ByteArray
 ask:Bool
 has:Bool
 L:Int
def AtLink (w:M)(b off i:Nat)(x:Link):Prop :=
 A w (Q b (off+i*4) Y)=T (U x.e)/\A w (Q b (off+i*4+1) Y)=T (ZD x.ask)/\A w (Q b (off+i*4+2) Y)=T (ZD x.has)/\A w (Q b (off+i*4+3) Y)=T (J I x.L)
theorem AtLink.aa{x:Link}(h:AtLink w b off i x)(hb:Below B w f)(c:b<B):AtLink f b off i x :=
 ⟨(hb.cell (p:=(Q b _ Y)) c).trans h.1,(hb.cell (p:=(Q b _ Y)) c).trans h.2.1,(hb.cell (p:=(Q b _ Y)) c).trans h.2.2.1,(hb.cell (p:=(Q b _ Y)) c).trans h.2.2.2⟩
def RowLink (w:M)(b off n:Nat)(f:Nat->Link):Prop:=b<w.heap.size/\∀i,i<n->AtLink w b off i (f i)
theorem RowLink.aa{f:Nat->Link}(h:RowLink w b off n f)(hb:Below B w c)(g:w.heap.size<=B):RowLink c b off n f :=
 ⟨Nat.lt_of_lt_of_le h.1 hb.size,λi hi=>(h.2 i hi).aa hb (Nat.lt_of_lt_of_le h.1 g)⟩
def SlLink (w:M)(a:Option Addr)(n:Nat)(f:Nat->Link):Prop:=n=0∨∃b off,a=T (Q b off Y)/\RowLink w b off n f
theorem SlLink.aa{f:Nat->Link}(h:SlLink w a n f)(hb:Below B w c)(i:w.heap.size<=B):SlLink c a n f:=by
 rcases h with h|⟨b,off,j,g⟩
 {exact .inl h};{exact .inr ⟨b,off,j,g.aa hb i⟩}
theorem fZ:(Pg.info? 93).map (λi=>(i.zero,i.size,i.bytes))=T (T (.agg #[U ⟨#[]⟩,ZD ZA,ZD ZA,J I 0]),4,32):=by kernel_rfl
structure Deed where
 e:ByteArray
 E:Int
 B:Int
 h:ByteArray
 f:Nat
 G:Nat->Ins
 b:Nat
 m:Nat->Link
def fD (x:Deed):Prop:=x.e.size<=maxLen/\x.h.size<=maxLen/\((x.f:Int)<=9223372036854775807/\∀j,j<x.f->(x.G j).s.size<=maxLen)/\((x.b:Int)<=9223372036854775807/\∀j,j<x.b->(x.m j).e.size<=maxLen)
def dk (x:Deed):Prop:=x.f<=1048576/\x.b<=1048576
def AtDeed (w:M)(b off i:Nat)(x:Deed):Prop :=
 A w (Q b (off+i*6) Y)=T (U x.e)/\A w (Q b (off+i*6+1) Y)=T (J I x.E)/\A w (Q b (off+i*6+2) Y)=T (J I x.B)/\A w (Q b (off+i*6+3) Y)=T (U x.h)/\(∃a cap,A w (Q b (off+i*6+4) Y)=T (Z a x.f cap)/\SlIns w a x.f x.G)/\(∃a cap,A w (Q b (off+i*6+5) Y)=T (Z a x.b cap)/\SlLink w a x.b x.m)
theorem AtDeed.aa{l:M}{x:Deed}(h:AtDeed w b off i x)(hb:Below B w l)(c:w.heap.size<=B)(f:b<w.heap.size):AtDeed l b off i x:=by obtain⟨q,m,s,n,⟨a0,g,o,r0⟩,⟨a1,j,r,r1⟩⟩:=h;refine⟨(hb.cell (p:=(Q b _ Y)) (Nat.lt_of_lt_of_le f c)).trans q,(hb.cell (p:=(Q b _ Y)) (Nat.lt_of_lt_of_le f c)).trans m,(hb.cell (p:=(Q b _ Y)) (Nat.lt_of_lt_of_le f c)).trans s,(hb.cell (p:=(Q b _ Y)) (Nat.lt_of_lt_of_le f c)).trans n,⟨a0,g,(hb.cell (p:=(Q b _ Y)) (Nat.lt_of_lt_of_le f c)).trans o,r0.aa hb c⟩,⟨a1,j,(hb.cell (p:=(Q b _ Y)) (Nat.lt_of_lt_of_le f c)).trans r,r1.aa hb c⟩⟩
def RowDeed (w:M)(b off n:Nat)(f:Nat->Deed):Prop:=b<w.heap.size/\∀i,i<n->AtDeed w b off i (f i)
theorem RowDeed.aa{f:Nat->Deed}(h:RowDeed w b off n f)(hb:Below B w c)(g:w.heap.size<=B):RowDeed c b off n f :=
 ⟨Nat.lt_of_lt_of_le h.1 hb.size,λi hi=>(h.2 i hi).aa hb g h.1⟩
def SlDeed (w:M)(a:Option Addr)(n:Nat)(f:Nat->Deed):Prop:=n=0∨∃b off,a=T (Q b off Y)/\RowDeed w b off n f
theorem SlDeed.aa{f:Nat->Deed}(h:SlDeed w a n f)(hb:Below B w c)(i:w.heap.size<=B):SlDeed c a n f:=by
 rcases h with h|⟨b,off,j,g⟩
 {exact .inl h};{exact .inr ⟨b,off,j,g.aa hb i⟩}
theorem eu:(Pg.info? 62).map (λi=>(i.zero,i.size,i.bytes))=T (T (.agg #[U ⟨#[]⟩,J I 0,J I 0,U ⟨#[]⟩,Z Y 0 0,Z Y 0 0]),6,96):=by kernel_rfl
def dv (n:Nat):Array ZC:=madeCells (Value.agg #[U ⟨#[]⟩,J I 0,J I 0,U ⟨#[]⟩,Z Y 0 0,Z Y 0 0]).cells (n*6)
theorem Hn (n:Nat)(hn:n<=1048576)(w:M):(Instr.makeSlice 23 (J I (n:Int)) (J I (n:Int))).run Pg w=.ok (Z (T (Q w.heap.size 0 Y)) n n) (w.alloc (N (dv n) 62)):=by obtain⟨i,hi,hz⟩:=Option.map_eq_some_iff.1 eu;simp only[Prod.mk.injEq] at hz;obtain⟨h1,h2,h3⟩:=hz;have h:=run_make (P:=Pg) w 23 62 i _ underlying23 hi h1 I I n n (by omega) (Int.le_refl _) (by rw[h3];omega) (by omega);rw[h2] at h;simpa[dv] using h
def ew (f:Nat->Deed)(p:Nat)(l:Link):Bool :=
 aw l.e && (if l.ask=ZG then !l.has && decide (0<=l.L) && decide (l.L<(p:Int)) && ((f l.L.toNat).e.toList == l.e.toList) else decide (l.L=0))
def bM (f:Nat->Deed)(p:Nat)(x:Deed):Nat->Bool
 |0=>ZG
 |k+1=>bM f p x k && ew f p (x.m k)
def aX (x:Deed):Bool:=decide (x.B=0) && decide (x.f=0) && decide (x.b=0)
def cG (f:Nat->Deed)(p:Nat)(x:Deed):Bool:=decide (0<=x.B) && decide (x.B<=5) && valid x.G x.f && decide (x.b<=200) && bM f p x x.b
def kindOk (f:Nat->Deed)(p:Nat)(x:Deed):Bool :=
 if x.E=1 then aX x else if x.E=2 then aX x && decide (x.h.size=0) else if x.E=3 then cG f p x else ZA
def be (f:Nat->Deed)(p:Nat):Bool:=aw (f p).e && decide ((f p).h.size<=2000) && kindOk f p (f p)
def ba (f:Nat->Deed)(p:Nat):Nat->Bool
 |0=>ZG
 |k+1=>ba f p k && !((f k).e.toList == (f p).e.toList)
def aM (g:Nat->Bool):Nat->Int
 |0=>-1
 |k+1=>if aM g k=-1 then (if g k=ZG then -1 else k) else aM g k
theorem fw (h:∀i,i<n->g i=ZG):aM g n=-1:=by
 induction n with
 |zero=>rfl
 |succ k b =>rw[aM,if_pos (b λi hi=>h i (by omega)),if_pos (h k (by omega))]
theorem fK (hi:i<n)(b:g i=ZA)(h:∀j,j<i->g j=ZG):aM g n=i:=by
 induction n with
 |zero=>omega
 |succ k c =>
  rw[aM];by_cases e:i=k;{subst e;rw[if_pos (fw h),if_neg (by rw[b];simp)]};{have:=c (by omega);rw[this,if_neg (by omega)]}
theorem fL (h:aM g n=-1):∀i,i<n->g i=ZG:=by
 induction n with
 |zero=>intro i hi;omega
 |succ k b =>
  rw[aM] at h;split at h
  ·rename_i h1;intro i hi;by_cases e:i=k
   ·subst e;cases hg:g i with
    |true=>rfl
    |false=>rw[hg] at h;simp at h
   {exact b h1 i (by omega)}
  {rename_i h1;exact absurd h h1}
theorem fM{f:Nat->Deed}{x:Deed}(h:bM f p x n=ZG):∀i,i<n->ew f p (x.m i)=ZG:=by
 induction n with
 |zero=>intro i hi;omega
 |succ k b =>
  simp only[bM,Bool.and_eq_true] at h;intro i hi;by_cases e:i=k;{subst e;exact h.2};{exact b h.1 i (by omega)}
def lks (b:Nat->Nat->(Nat->Bool)->(Nat->Bool) × List (Nat × Nat))(x:Deed)(d:Nat)(s:Nat->Bool):Nat->(Nat->Bool) × List (Nat × Nat)
 |0=>(s,[])
 |j+1=>if (x.m j).ask=ZG/\(lks b x d s j).1 (x.m j).L.toNat=ZA then ((b (x.m j).L.toNat (d+1) (lks b x d s j).1).1,(lks b x d s j).2++(b (x.m j).L.toNat (d+1) (lks b x d s j).1).2) else lks b x d s j
def put (s:Nat->Bool)(p:Nat):Nat->Bool:=λq=>q == p || s q
def lst (f:Nat->Deed):Nat->Nat->Nat->(Nat->Bool)->(Nat->Bool) × List (Nat × Nat)
 |0,_,_,s=>(s,[])
 |k+1,p,d,s=>(put (lks (lst f k) (f p) d s (f p).b).1 p,(lks (lst f k) (f p) d s (f p).b).2++[(p,d)])
def fW (f:Nat->Deed)(n:Nat):Prop:=∀p,p<n->∀i,i<(f p).b->((f p).m i).ask=ZG->((f p).m i).L.toNat<p/\0<=((f p).m i).L
def cnt (s:Nat->Bool):Nat->Nat
 |0=>0
 |k+1=>cnt s k+(if s k=ZG then 1 else 0)
theorem Ho (s:Nat->Bool)(n:Nat):cnt s n<=n:=by
 induction n with
 |zero=>simp[cnt]
 |succ k ih=>rw[cnt];split<;>omega
theorem zL{s b:Nat->Bool}(h:∀q,q<n->s q=b q):cnt s n=cnt b n:=by
 induction n with
 |zero=>rfl
 |succ k c=>rw[cnt,cnt,c λq hq=>h q (by omega),h k (by omega)]
theorem FM{s:Nat->Bool}(hp:p<n)(h:s p=ZA):cnt (put s p) n=cnt s n+1:=by
 induction n with
 |zero=>omega
 |succ k b =>
  rw[cnt,cnt];by_cases e:p=k
  ·subst e;have h1:cnt (put s p) p=cnt s p:=zL λq hq=>by simp[put];omega
   simp[h1,put,h]
  ·have h1:put s p k=s k:=by simp[put];omega
   rw[b (by omega),h1];omega
structure Lsd (n p d:Nat)(s:Nat->Bool)(r:(Nat->Bool) × List (Nat × Nat)):Prop where
 far:∀q,p<q->r.1 q=s q
 old:∀q,s q=ZG->r.1 q=ZG
 num:cnt r.1 n=cnt s n+r.2.length
 last:∃o,r.2=o++[(p,d)]
 le:∀x∈r.2,x.1<=p
theorem wR {f:Nat->Deed}{n k p d:Nat}{s:Nat->Bool}(i:fW f n)(m:p<n)(l:∀q d s,q<p->s q=ZA->Lsd n q d s (lst f k q d s)):∀j,j<=(f p).b->(∀q,p<=q->(lks (lst f k) (f p) d s j).1 q=s q)/\(∀q,s q=ZG->(lks (lst f k) (f p) d s j).1 q=ZG)/\cnt (lks (lst f k) (f p) d s j).1 n=cnt s n+(lks (lst f k) (f p) d s j).2.length/\∀x∈(lks (lst f k) (f p) d s j).2,x.1<p
 |0,_=>⟨λ_ _=>rfl,λ_ h=>h,by simp[lks],by simp[lks]⟩
 |j+1,hj=>by
  obtain⟨h1,h2,h3,h4⟩:=wR (d:=d) (s:=s) i m l j (by omega);rw[lks];split
  ·rename_i o
   have r:=(i p m j (by omega) o.1).1;have g:=l _ (d+1) _ r o.2;refine⟨λq c=>(g.far q (by omega)).trans (h1 q c),λq c=>g.old q (h2 q c),?_,λx b=>?_⟩
   ·show cnt (lst f k _ (d+1) _).1 n=_
    rw[g.num,h3,List.length_append];omega
   ·rcases List.mem_append.1 b with b|b
    ·exact h4 x b
    ·have:=g.le x b
     omega
  ·exact⟨h1,h2,h3,h4⟩
theorem wT {f:Nat->Deed}{n:Nat}(i:fW f n):∀k p d s,p<k->p<n->s p=ZA->Lsd n p d s (lst f k p d s)
 |0,_,_,_,h,_,_=>absurd h (Nat.not_lt_zero _)
 |k+1,p,d,s,hk,hn,c=>by
  obtain⟨h1,h2,h3,h4⟩:=wR (d:=d) (s:=s) i hn (λq d s g c=>wT i k q d s (by omega) (by omega) c) (f p).b (Nat.le_refl _);have j:=(h1 p (Nat.le_refl _)).trans c;refine⟨λq g=>?_,λq g=>?_,?_,⟨_,rfl⟩,λx b=>?_⟩
  ·show put _ p q=s q
   rw[put,h1 q (by omega)];simp;omega
  ·show put _ p q=ZG
   rw[put,h2 q g];simp
  ·show cnt (put _ p) n=_
   rw[FM hn j,h3];simp[lst,List.length_append];omega
  ·rcases List.mem_append.1 b with b|b
   ·exact Nat.le_of_lt (h4 x b)
   ·simp at b
    subst b;exact Nat.le_refl _
theorem wU {f:Nat->Deed}{n:Nat}(c:fW f n):∀k p d s q,p<n->p<q->lst f k p d (put s q)=(put (lst f k p d s).1 q,(lst f k p d s).2)
 |0,_,_,_,_,_,_=>rfl
 |k+1,p,d,s,q,hn,hq=>by
  have g:∀j,j<=(f p).b->lks (lst f k) (f p) d (put s q) j=(put (lks (lst f k) (f p) d s j).1 q,(lks (lst f k) (f p) d s j).2):=by
   intro j;induction j with
   |zero=>intro _;rfl
   |succ j i =>
    intro hj;have e:=i (by omega);rw[lks,lks,e];by_cases b:((f p).m j).ask=ZG
    ·have ha:=(c p hn j (by omega) b).1
     have l:put (lks (lst f k) (f p) d s j).1 q ((f p).m j).L.toNat=(lks (lst f k) (f p) d s j).1 ((f p).m j).L.toNat:=by simp[put];omega
     simp only[l,b,true_and];split
     ·rw[wU c k _ (d+1) _ q (by omega) (by omega)]
     ·rfl
    ·rw[if_neg (λh=>b h.1),if_neg (λh=>b h.1)]
  have e:=g (f p).b (Nat.le_refl _);rw[lst,lst,e];simp only[Prod.mk.injEq,and_true];funext x;simp only[put];cases h1:x == p<;>cases h2:x == q<;>simp
def bw:Nat->List (Nat × Nat)->Int
 |_,[]=>-1
 |i,x::xs=>if x.1=i then bw (i+1) xs else i
def aY (f:Nat->Deed):List (Nat × Nat)->Int
 |[]=>-1
 |x::xs=>if (f x.1).E=3/\60<=x.2 then x.1 else aY f xs
def aD (f:Nat->Deed)(n:Nat):List (Nat × Nat):=(lst f n (n - 1) 0 (λ_=>ZA)).2
def eN (f:Nat->Deed)(n:Nat):Int × Int :=
 if n=0∨400<n then (1,0) else
 if aM (be f) n≠-1 then (2,aM (be f) n) else
 if aM (λp=>ba f p p) n≠-1 then (3,aM (λp=>ba f p p) n) else
 if bw 0 (aD f n)≠-1 then (4,bw 0 (aD f n)) else
 if aY f (aD f n)≠-1 then (5,aY f (aD f n)) else (0,0)
theorem jC{f:Nat->Deed}(h:aM (be f) n=-1):fW f n:=by
 intro p c i hi b;have h1:=fL h p c;simp only[be,Bool.and_eq_true,kindOk] at h1;obtain⟨_,h2⟩:=h1;split at h2;{simp[aX] at h2;omega};{split at h2;{simp[aX] at h2;omega};{split at h2;{simp only[cG,Bool.and_eq_true] at h2;have h3:=fM h2.2 i hi;simp only[ew,b,if_true,Bool.and_eq_true,decide_eq_true_eq] at h3;omega};{cases h2}}}
theorem vw (s:ByteArray)(w:M):Calls Pg 146 #[U s] w λe l=>e=ZF (ZD (aw s))/\l=w:=by
 by_cases h1:1<=(s.size:Int)
 ·by_cases h2:(s.size:Int)<=60
  ·have g:Hid (aw s=dJ s s.size):=by
    show aw s=dJ s s.size;unfold aw;rw[show decide (1<=s.size/\s.size<=60)=ZG by simp;omega,Bool.true_and]
   go_enter func146,ntmps146;go_wp2;go_loopw [14] (λi wr=>∃k:Nat,k<=s.size/\i=J I k/\dJ s k=ZG/\wr=w) (λi _=>s.size - (intOf i).toNat);case atStart=>exact⟨0,by omega,rfl,rfl,rfl⟩
   case round =>
    obtain⟨k,hk,rfl,f,j⟩:=hrel;have c:=ae j;have h:=ae f;clear j f;by_cases b:k<s.size
    ·by_cases p1:33<=(s[k].toNat:Int)
     {by_cases p2:(s[k].toNat:Int)<=126;{go_wp2;exact⟨⟨k+1,by omega,by go_num,by rw[kC b,h.out];simp;omega,c⟩,by simp[intOf];omega⟩};{go_wp2;go_ret;exact⟨cF (by rw[g.out,gN b (by omega)]),c⟩}};{go_wp2;go_ret;exact⟨cF (by rw[g.out,gN b (by omega)]),c⟩}
    ·have e:k=s.size:=by omega
     subst e;go_wp2;go_ret;exact⟨cF (by rw[g.out,h.out]),c.out⟩
  {have e:aw s=ZA:=(by unfold aw;rw[show decide (1<=s.size/\s.size<=60)=ZA by simp;omega,Bool.false_and]);rw[e];clear e;go_enter func146,ntmps146;go_wp2;go_ret;exact⟨rfl,rfl⟩}
 {have e:aw s=ZA:=(by unfold aw;rw[show decide (1<=s.size/\s.size<=60)=ZA by simp;omega,Bool.false_and]);rw[e];clear e;go_enter func146,ntmps146;go_wp2;go_ret;exact⟨rfl,rfl⟩}
def TabW (w:M):Prop:=∀k:Nat,k<16->A w (Q 1 (k*5) Y)=T (U ⟨(word k).toArray⟩)
theorem TabW.aa{b:M}(h:TabW w)(hb:Below B w b)(f:1<B):TabW b :=
 λk c=>(hb.cell (p:=(Q 1 _ Y)) f).trans (h k c)
def mD (x y:Ins):Bool:=x.op == y.op && x.s.toList == y.s.toList && x.n == y.n
def fe (f g:Nat->Ins):Nat->Bool
 |0=>ZG
 |k+1=>fe f g k && mD (f k) (g k)
def iH (f g:Nat->Ins)(n m:Nat):Bool:=decide (n=m) && fe f g n
theorem pk{f g:Nat->Ins}{k:Nat}(h:k<=n)(hn:fe f g n=ZG):fe f g k=ZG:=by
 induction n with
 |zero =>
  obtain rfl:k=0:=by omega
  exact hn
 |succ m b =>
  by_cases e:k=m+1;{subst e;exact hn};{simp only[fe,Bool.and_eq_true] at hn;exact b (by omega) hn.1}
theorem vA{f g:Nat->Ins}{k:Nat}(h:k<n)(b:mD (f k) (g k)=ZA):fe f g n=ZA:=by
 cases e:fe f g n with
 |false=>rfl
 |true =>have h2:=pk (show k+1<=n by omega) e;simp[fe,b] at h2
