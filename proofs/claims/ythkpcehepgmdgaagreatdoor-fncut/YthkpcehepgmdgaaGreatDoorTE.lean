import Derived.Test.YthkpcehepgmdgaaGreatDoorProg
import Derived.WalkKit
import Derived.WalkSpells
import Derived.WalkLawsBesides
import Derived.Deep.OwnRows
import Derived.Deep.RegionWith
import Derived.Deep.QuietTactic
import Derived.BigQuiet
set_option maxHeartbeats 1000000
open Go renaming Addr.mk->Q,Value.slice->Z,Obj.cells->N,IntKind.i64->I,World->G,Value->ZD,TypeId->ZI,Ending.returned->ZG,World.heap->U,World.cell?->ZT,World.frozen?->ZU,World.setCell->A,Proofs.Tryz.prog->Pg
open Option renaming none->Y,some->T
open Bool renaming false->ZB,true->ZF
open Array renaming size->J
namespace Go.Proofs.YthkpcehepgmdgaaGreatDoor.Vp
open Tryz RowKit
variable {w g V W u ZL:G}{b n B off i p:Nat}{f:ZD}{a:Option Addr}{s:ByteArray}{t:ZI}{P:Nat->Prop}{fn:Func}{R:Ending->G->Prop}
theorem lj{a c:Nat}(h:a<b)(g:b<=c):a<c:=Nat.lt_of_lt_of_le h g
theorem q9 (w:G):Below (J (U w)) w w:=Below.refl _ _
theorem br:Below B w w:=Below.refl _ _
abbrev sq:=@World.cell?_setCell_other
abbrev qh:=@Below.heap_setCell
abbrev bp:=@bodyPost_ret
abbrev gq:=@List.getElem?_eq_getElem
abbrev cq:=@World.cell?_of_block
abbrev bg:=@Below.grown
abbrev gz:=@List.getElem_mem
abbrev nj:=@List.not_mem_nil
abbrev mq:=@List.mem_cons_of_mem
abbrev cM:=@Below.refl
abbrev eT:=@if_neg
abbrev gB:=@List.length_append
abbrev gM:=@Nat.lt_succ_self
abbrev hU:=@if_pos
abbrev j2:=@List.getElem?_eq_some_iff
abbrev j4:=@List.mem_singleton
abbrev j5:=@Bool.and_eq_true
abbrev j6:=@Nat.le_refl
abbrev nD:=@heap_alloc_new
abbrev nL:=@IntKind.wrap_i64
abbrev nX:=@decide_eq_true_eq
abbrev n6:=@List.mem_append
abbrev p6:=@List.length_cons
abbrev p9:=@Int.eq_ofNat_of_zero_le
abbrev AD:=@Nat.le_trans
abbrev AI:=@List.map_append
abbrev AT:=@World.cell?_setCell_same'
abbrev A9:=@Array.getElem?_eq_some_iff
abbrev BG:=@below_drewN
abbrev BO:=@Nat.lt_of_lt_of_le
abbrev BS:=@List.mem_cons
abbrev CD:=@congrArg
abbrev CL:=@World.ownsRow_nil
abbrev CP:=@List.getD_eq_getElem?_getD
abbrev CV:=@List.length_singleton
abbrev DD:=@wpList_append_own
abbrev DN:=@Nat.zero_le
abbrev E4:=@Nat.zero_add
abbrev GD:=@Option.some.inj
abbrev HU:=@List.getElem?_map
abbrev IH:=@List.flatMap_append
abbrev IN:=@List.mem_of_getElem?
abbrev IS:=@Nat.le_succ
abbrev IT:=@Nat.not_lt_zero
abbrev J1:=@List.length_nil
abbrev J2:=@List.nil_append
abbrev KJ:=@Prod.mk.injEq
abbrev KK:=@List.append_assoc
abbrev KL:=@List.getElem?_append_right
abbrev KM:=@List.mem_append_left
abbrev KN:=@Option.some.injEq
abbrev KO:=@List.getElem?_append_left
abbrev KP:=@List.length_set
abbrev KQ:=@info_parts
abbrev KT:=@List.mem_range
abbrev KU:=@Value.slice.injEq
abbrev KV:=@Array.getElem?_toList
abbrev KZ:=@Array.getElem?_modify
abbrev LA:=@List.mem_map
abbrev LC:=@underlying31
abbrev LD:=@List.pairwise_iff_getElem
abbrev LE:=@List.length_pos_iff
abbrev LF:=@World.frozen?_of_block
abbrev LG:=@decide_eq_false_iff_not
abbrev LH:=@underlying9
abbrev LI:=@List.flatMap_cons
abbrev LJ:=@List.getElem?_eq_none
abbrev LK:=@World.ownsRow_made
abbrev LL:=@underlying3
abbrev LM:=@List.mem_append_right
abbrev LN:=@List.mem_or_eq_of_mem_set
abbrev LP:=@List.range_succ
abbrev LQ:=@List.cons_append
abbrev LR:=@List.length_map
abbrev LU:=@List.length_take
abbrev LV:=@ByteArray.toList_eq
abbrev LX:=@underlying23
abbrev LZ:=@underlying45
abbrev L8:=@List.getElem?_set_self
abbrev L9:=@ByteArray.size_append
abbrev MA:=@of_decide_eq_true
abbrev MB:=@underlying39
abbrev ME:=@List.getElem?_of_mem
abbrev MF:=@Bool.eq_iff_iff
abbrev MG:=@underlying5
abbrev MH:=@List.length_drop
abbrev MI:=@Bool.true_and
abbrev MJ:=@Nat.lt_or_ge
abbrev MK:=@List.mem_flatMap
abbrev MN:=@List.pairwise_append
abbrev MO:=@Array.getElem?_eq_none
abbrev MP:=@Option.map_eq_some_iff
abbrev MQ:=@Int.tmod_eq_emod_of_nonneg
abbrev MR:=@decide_eq_true
abbrev MS:=@underlying22
abbrev MU:=@Array.toList_setIfInBounds
abbrev MV:=@Int.toNat_natCast
abbrev MW:=@List.take_of_length_le
abbrev MX:=@List.size_toArray
abbrev MY:=@underlying30
abbrev MZ:=@zeroValue3
abbrev ND:=@Nat.min_eq_left
abbrev NE:=@or_false
abbrev NF:=@List.take_append_drop
abbrev NG:=@Below.heap_setCell
abbrev NH:=@ntmps122
abbrev NI:=@List.mem_of_mem_take
abbrev NJ:=@Array.replicate_succ
abbrev NK:=@Array.replicate_zero
abbrev NL:=@List.getElem?_set_ne
abbrev NM:=@Array.length_toList
abbrev NN:=@List.append_toArray
abbrev NO:=@Nat.add_zero
abbrev NP:=@func122
abbrev NQ:=@underlying4
abbrev NR:=@Nat.add_sub_cancel
abbrev NS:=@results93
abbrev NT:=@List.mem_cons_self
abbrev NU:=@World.frozen?_setCell
abbrev NV:=@List.length_replicate
abbrev NY:=@List.findIdx?_eq_some_iff_getElem
abbrev NZ:=@Classical.byContradiction
abbrev N5:=@List.findIdx?_eq_none_iff
abbrev N9:=@decide_eq_false
abbrev OB:=@underlying42
abbrev OD:=@List.ext_getElem?
abbrev OH:=@List.push_toArray
abbrev OJ:=@List.idxOf_append
abbrev ON:=@beq_iff_eq
abbrev OP:=@Bool.and_true
abbrev OR:=@Addr.mk.injEq
abbrev OT:=@World.ownsRow.cells
abbrev OU:=@Array.eq_empty_of_size_eq_zero
abbrev OV:=@World.block_lt_of_cell?
abbrev PC:=@results75
abbrev PD:=@Nat.le_of_lt
abbrev PE:=@Nat.mod_lt
abbrev PH:=@run_convert_bytes_back
abbrev PI:=@List.find?_eq_none
abbrev PJ:=@Bool.not_eq_false'
abbrev PK:=@IntKind.wrap_u8
abbrev PL:=@zeroValue4
abbrev PM:=@zeroValue9
abbrev PQ:=@heap_alloc2_new
abbrev PR:=@World.var?_cell
abbrev PU:=@results121
abbrev PV:=@Value.slice.inj
abbrev PX:=@Sum.inl.injEq
abbrev P6:=@List.set_append_right
abbrev P9:=@List.countP_mono_left
abbrev QB:=@List.countP_le_length
abbrev QC:=@List.idxOf_lt_length_of_mem
abbrev QD:=@underlying21
abbrev QE:=@if_false
abbrev QF:=@results61
abbrev QG:=@results58
abbrev QH:=@results67
abbrev QK:=@List.cons_ne_nil
abbrev QL:=@sizeOf3
abbrev QM:=@List.flatMap_map
abbrev QO:=@Decidable.byContradiction
abbrev QP:=@ntmps123
abbrev QR:=@List.map_cons
abbrev QT:=@Nat.lt_succ_iff_lt_or_eq
abbrev QU:=@List.append_nil
abbrev QV:=@zeroValue5
abbrev QW:=@underlying197
abbrev QX:=@List.set_cons_succ
abbrev QY:=@List.filter_append
abbrev QZ:=@Below.alloc
abbrev Q2:=@isAgg3
abbrev Q3:=@List.getElem?_cons_zero
abbrev Q9:=@List.getElem?_cons_succ
abbrev RC:=@List.length_eq_zero_iff
abbrev RD:=@func123
abbrev RF:=@Nat.lt_of_succ_lt
abbrev RH:=@Nat.lt_trichotomy
abbrev RI:=@ntmps32
abbrev RJ:=@ntmps31
abbrev RK:=@sizeOf4
abbrev RL:=@sizeOf9
abbrev RP:=@zeroValue197
abbrev RU:=@UInt8.not_lt
abbrev RV:=@Nat.sub_self
abbrev RY:=@List.set_set
abbrev RZ:=@DataW.trod_int
abbrev R8:=@List.length_filter_le
abbrev SE:=@ownsRow_setCell_other
abbrev SF:=@ownsRow_setCell_below
abbrev SG:=@List.not_mem_nil
abbrev SH:=@List.any_eq_true
abbrev SJ:=@underlying0
abbrev SN:=@zeroValue21
abbrev SU:=@List.getElem_map
abbrev SV:=@if_true
abbrev SY:=@List.take_set
abbrev SZ:=@List.all_cons
abbrev TC:=@World.cell?_of_block
abbrev TF:=@Int.le_refl
abbrev TG:=@true_and
abbrev TH:=@func32
abbrev TI:=@func31
abbrev TJ:=@isAgg4
abbrev TK:=@isAgg9
abbrev TN:=@List.set_append_left
abbrev TP:=@Bool.or_eq_false_iff
abbrev TQ:=@Option.map_some
abbrev TS:=@results126
abbrev TT:=@zeroValue0
abbrev TU:=@Oper.semAt_some
abbrev TV:=@List.prefix_rfl
abbrev TX:=@results130
abbrev TY:=@results133
abbrev TZ:=@Exit.noGoto_ret
abbrev T0:=@List.map_congr_left
abbrev T1:=@List.dropWhile_cons
abbrev T3:=@List.getElem_of_mem
abbrev T6:=@List.mem_map_of_mem
abbrev T7:=@List.map_nil
abbrev T8:=@Nat.zero_mul
abbrev UA:=@func174
abbrev UB:=@sizeOf5
abbrev UC:=@List.all_nil
abbrev UD:=@Bool.false_and
abbrev UE:=@List.getElem_idxOf
abbrev UF:=@sizeOf197
abbrev UG:=@Nat.lt_or_gt_of_ne
abbrev UH:=@Lib.frozen_of_heap
abbrev UI:=@heap_alloc_old
abbrev UJ:=@underlying174
abbrev UK:=@List.prefix_append
abbrev UL:=@of_decide_eq_false
abbrev UM:=@results57
abbrev UN:=@results68
abbrev UO:=@List.getElem?_take
abbrev UQ:=@underlying120
abbrev UR:=@isAgg5
abbrev US:=@ntmps129
abbrev UT:=@ntmps116
abbrev UU:=@ByteArray.ext
abbrev UV:=@sizeOf21
abbrev UW:=@isAgg197
abbrev UX:=@results7
abbrev UY:=@results6
abbrev UZ:=@func3
theorem ly:n<=n:=Nat.le_refl n
theorem ae{p:Prop}(h:p):Hid p:=h
theorem nzL{f:Type}:(∀(l:List f) (i:Nat) (a:f),l.toArray.setIfInBounds i a=(l.set i a).toArray)/\(∀(a b:f) (l:List f),(a::l).set 0 b=b::l)/\∀(a b:f) (l:List f) (i:Nat),(a::l).set (i+1) b=a::l.set i b :=
 ⟨λ_ _ _=>List.setIfInBounds_toArray ..,λ_ _ _=>rfl,λ_ _ _ _=>rfl⟩
theorem GJ{f:G}(hb:Below (J (U W)) W f):(∀b o,b<J (U W)->ZT f (Q b o Y)=ZT W (Q b o Y))/\(∀b o,b<J (U W)->ZU f (Q b o Y)=ZU W (Q b o Y)) :=
 ⟨λb o h=>hb.cell (p:=(Q b o Y)) h,λb o h=>hb.frozen (p:=(Q b o Y)) h⟩
theorem cell_far (w:G)(p a:Addr)(v:ZD)(h:p.block≠a.block):(w.setCell p v).cell? a=w.cell? a :=
 World.cell?_of_block (w:=w) (a:=a) (Below.heap_setCell w p v a.block (λe=>h e.symm))
theorem be{a b:Bool}(h:a=b):Ending.returned (.bool a)=ZG (.bool b):=by rw[h]
theorem gu{a b:ByteArray}(h:a=b):Ending.returned (.string a)=ZG (.string b):=by rw[h]
theorem lU (h:s.size=0):s=⟨#[]⟩:=by obtain⟨a⟩:=s;have:a.size=0:=h;rw[Array.eq_empty_of_size_eq_zero this]
theorem lY (h:¬ s.size=0):¬ s.toList=[]:=by
 intro e;have h2:s.toList.length=s.size:=by rw[ByteArray.toList_eq];rfl
 rw[e] at h2;simp at h2;omega
theorem nb1{c:Array ZD}{s:ZI}(h:w.alloc (N c s)=W):Hid (Below (J (U w)) w W)/\Hid (W.heap[J (U w)]?=T (N c s (0,0)))/\(J (U W))=J (U w)+1:=by subst h;exact⟨(Below.refl (J (U w)) w).alloc (Nat.le_refl _) _,heap_alloc_new w _,by simp⟩
theorem nb2{c d:Array ZD}{s:ZI}(h:(w.alloc (N c s)).alloc (N d t)=W):Hid (Below (J (U w)) w W)/\Hid (W.heap[J (U w)]?=T (N c s (0,0)))/\Hid (W.heap[J (U w)+1]?=T (N d t (0,0)))/\(J (U W))=J (U w)+2:=by obtain⟨ZV,K,z⟩:=nb1 (w:=w) (c:=c) (s:=s) rfl;obtain⟨B,ZP,y⟩:=nb1 h;rw[z] at B ZP y;exact⟨Below.trans ZV.out (B.out.mono (by omega)),(B.out.block _ (by omega)).trans K.out,ZP,y⟩
theorem nb3{c d f:Array ZD}{s u:ZI}(h:((w.alloc (N c s)).alloc (N d t)).alloc (N f u)=W):Hid (Below (J (U w)) w W)/\Hid (W.heap[J (U w)]?=T (N c s (0,0)))/\Hid (W.heap[J (U w)+1]?=T (N d t (0,0)))/\Hid (W.heap[J (U w)+2]?=T (N f u (0,0)))/\(J (U W))=J (U w)+3:=by obtain⟨ZV,K,L,z⟩:=nb2 (w:=w) (c:=c) (d:=d) (s:=s) (t:=t) rfl;obtain⟨B,ZP,y⟩:=nb1 h;rw[z] at B ZP y;exact⟨Below.trans ZV.out (B.out.mono (by omega)),(B.out.block _ (by omega)).trans K.out,(B.out.block _ (by omega)).trans L.out,ZP,y⟩
theorem al3 (h:∀j,P j):P 0/\P 1/\P 2:=⟨h 0,h 1,h 2⟩
theorem al6 (h:∀j,P j):P 0/\P 1/\P 2/\P 3/\P 4/\P 5:=⟨h 0,h 1,h 2,h 3,h 4,h 5⟩
theorem bl6 (h:∀j,j<6->P j):P 0/\P 1/\P 2/\P 3/\P 4/\P 5:=⟨h 0 (by decide),h 1 (by decide),h 2 (by decide),h 3 (by decide),h 4 (by decide),h 5 (by decide)⟩
structure Ins where
 op:Int
 s:ByteArray
 n:Int
def AtIns (w:G)(b off i:Nat)(x:Ins):Prop :=
 ZT w (Q b (off+i*3) Y)=T (.int I x.op)/\ZT w (Q b (off+i*3+1) Y)=T (.string x.s)/\ZT w (Q b (off+i*3+2) Y)=T (.int I x.n)
theorem AtIns.aa{x:Ins}(h:AtIns w b off i x)(hb:Below B w g)(f:b<B):AtIns g b off i x :=
 ⟨(hb.cell (p:=(Q b _ Y)) f).trans h.1,(hb.cell (p:=(Q b _ Y)) f).trans h.2.1,(hb.cell (p:=(Q b _ Y)) f).trans h.2.2⟩
def RowIns (w:G)(b off n:Nat)(f:Nat->Ins):Prop:=b<J (U w)/\∀i,i<n->AtIns w b off i (f i)
theorem RowIns.aa{f:Nat->Ins}(h:RowIns w b off n f)(hb:Below B w g)(j:J (U w)<=B):RowIns g b off n f :=
 ⟨Nat.lt_of_lt_of_le h.1 hb.size,λi hi=>(h.2 i hi).aa hb (Nat.lt_of_lt_of_le h.1 j)⟩
def SlIns (w:G)(a:Option Addr)(n:Nat)(f:Nat->Ins):Prop:=n=0∨∃b off,a=T (Q b off Y)/\RowIns w b off n f
theorem SlIns.aa{f:Nat->Ins}(h:SlIns w a n f)(hb:Below B w g)(i:J (U w)<=B):SlIns g a n f:=by
 rcases h with h|⟨b,off,j,l⟩
 {exact .inl h};{exact .inr ⟨b,off,j,l.aa hb i⟩}
theorem RowIns.sl{f:Nat->Ins}(h:RowIns w b off n f):SlIns w (T (Q b off Y)) n f:=.inr ⟨b,off,rfl,h⟩
theorem mW:(Pg.info? 90).map (λi=>(i.zero,i.size,i.bytes))=T (T (.agg #[.int I 0,.string ⟨#[]⟩,.int I 0]),3,32):=by kernel_rfl
structure Source where
 e:ByteArray
 B:ByteArray
def AtSource (w:G)(b off i:Nat)(x:Source):Prop :=
 ZT w (Q b (off+i*2) Y)=T (.string x.e)/\ZT w (Q b (off+i*2+1) Y)=T (.string x.B)
theorem AtSource.aa{x:Source}(h:AtSource w b off i x)(hb:Below B w g)(f:b<B):AtSource g b off i x :=
 ⟨(hb.cell (p:=(Q b _ Y)) f).trans h.1,(hb.cell (p:=(Q b _ Y)) f).trans h.2⟩
def RowSource (w:G)(b off n:Nat)(f:Nat->Source):Prop:=b<J (U w)/\∀i,i<n->AtSource w b off i (f i)
theorem RowSource.aa{f:Nat->Source}(h:RowSource w b off n f)(hb:Below B w g)(j:J (U w)<=B):RowSource g b off n f :=
 ⟨Nat.lt_of_lt_of_le h.1 hb.size,λi hi=>(h.2 i hi).aa hb (Nat.lt_of_lt_of_le h.1 j)⟩
def SlSource (w:G)(a:Option Addr)(n:Nat)(f:Nat->Source):Prop:=n=0∨∃b off,a=T (Q b off Y)/\RowSource w b off n f
theorem SlSource.aa{f:Nat->Source}(h:SlSource w a n f)(hb:Below B w g)(i:J (U w)<=B):SlSource g a n f:=by
 rcases h with h|⟨b,off,j,l⟩
 {exact .inl h};{exact .inr ⟨b,off,j,l.aa hb i⟩}
theorem iS:(Pg.info? 87).map (λi=>(i.zero,i.size,i.bytes))=T (T (.agg #[.string ⟨#[]⟩,.string ⟨#[]⟩]),2,32):=by kernel_rfl
structure Target where
 e:ByteArray
 l:Nat
 u:Nat->Ins
def aU (x:Target):Prop:=x.l<=1048576
def AtTarget (w:G)(b off i:Nat)(x:Target):Prop :=
 ZT w (Q b (off+i*2) Y)=T (.string x.e)/\(∃a cap,ZT w (Q b (off+i*2+1) Y)=T (Z a x.l cap)/\SlIns w a x.l x.u)
theorem AtTarget.aa{l:G}{x:Target}(h:AtTarget w b off i x)(hb:Below B w l)(f:J (U w)<=B)(j:b<J (U w)):AtTarget l b off i x:=by obtain⟨m,⟨a0,g,s0,r0⟩⟩:=h;refine⟨(hb.cell (p:=(Q b _ Y)) (Nat.lt_of_lt_of_le j f)).trans m,⟨a0,g,(hb.cell (p:=(Q b _ Y)) (Nat.lt_of_lt_of_le j f)).trans s0,r0.aa hb f⟩⟩
def RowTarget (w:G)(b off n:Nat)(f:Nat->Target):Prop:=b<J (U w)/\∀i,i<n->AtTarget w b off i (f i)
theorem RowTarget.aa{f:Nat->Target}(h:RowTarget w b off n f)(hb:Below B w g)(j:J (U w)<=B):RowTarget g b off n f :=
 ⟨Nat.lt_of_lt_of_le h.1 hb.size,λi hi=>(h.2 i hi).aa hb j h.1⟩
def SlTarget (w:G)(a:Option Addr)(n:Nat)(f:Nat->Target):Prop:=n=0∨∃b off,a=T (Q b off Y)/\RowTarget w b off n f
theorem SlTarget.aa{f:Nat->Target}(h:SlTarget w a n f)(hb:Below B w g)(i:J (U w)<=B):SlTarget g a n f:=by
 rcases h with h|⟨b,off,j,l⟩
 {exact .inl h};{exact .inr ⟨b,off,j,l.aa hb i⟩}
theorem ez:(Pg.info? 94).map (λi=>(i.zero,i.size,i.bytes))=T (T (.agg #[.string ⟨#[]⟩,Z Y 0 0]),2,40):=by kernel_rfl
def RowStr (w:G)(b off n:Nat)(f:Nat->ByteArray):Prop:=b<J (U w)/\∀i,i<n->ZT w (Q b (off+i) Y)=T (.string (f i))
theorem RowStr.aa{f:Nat->ByteArray}(h:RowStr w b off n f)(hb:Below B w g)(j:J (U w)<=B):RowStr g b off n f :=
 ⟨Nat.lt_of_lt_of_le h.1 hb.size,λi hi=>(hb.cell (p:=(Q b _ Y)) (Nat.lt_of_lt_of_le h.1 j)).trans (h.2 i hi)⟩
def SlStr (w:G)(a:Option Addr)(n:Nat)(f:Nat->ByteArray):Prop:=n=0∨∃b off,a=T (Q b off Y)/\RowStr w b off n f
theorem SlStr.aa{f:Nat->ByteArray}(h:SlStr w a n f)(hb:Below B w g)(i:J (U w)<=B):SlStr g a n f:=by
 rcases h with h|⟨b,off,j,l⟩
 {exact .inl h};{exact .inr ⟨b,off,j,l.aa hb i⟩}
theorem gH:(Pg.info? 9).map (λi=>(i.zero,i.size,i.bytes))=T (T (.string ⟨#[]⟩),1,16):=by kernel_rfl
def dO (s:ByteArray):Nat->Bool
 |0=>ZF
 |k+1=>dO s k && (match s.data[k]? with|some c=>decide (33<=c.toNat/\c.toNat<=126)|none=>ZB)
def av (s:ByteArray):Bool:=decide (1<=s.size/\s.size<=60) && dO s s.size
theorem uW{k:Nat}(h:k<=n)(hn:dO s n=ZF):dO s k=ZF:=by
 induction n with
 |zero =>
  obtain rfl:k=0:=by omega
  exact hn
 |succ m b =>
  by_cases e:k=m+1;{subst e;exact hn};{simp only[dO,Bool.and_eq_true] at hn;exact b (by omega) hn.1}
theorem jP{k:Nat}(h:k<s.size):dO s (k+1)=(dO s k && decide (33<=s[k].toNat/\s[k].toNat<=126)):=by
 have e:s.data[k]?=T s[k]:=by rw[Array.getElem?_eq_getElem h];rfl
 rw[dO,e]
theorem gI{k:Nat}(h:k<s.size)(hk:¬ (33<=s[k].toNat/\s[k].toNat<=126)):dO s s.size=ZB:=by
 cases e:dO s s.size with
 |false=>rfl
 |true =>have h2:=uW (show k+1<=s.size by omega) e;rw[jP h] at h2;simp at h2;omega
theorem sL (s:ByteArray)(w:G)(F:Nat)(hF:(True/\F=123)∨F=35):Calls Pg F #[.string s] w λe n=>e=ZG (.bool (av s))/\Below (J (U w)) w n:=by
 by_cases h1:1<=(s.size:Int)/\(s.size:Int)<=60
 ·have j:Hid (av s=dO s s.size):=by
   show av s=dO s s.size;unfold av;rw[show decide (1<=s.size/\s.size<=60)=ZF by simp;omega,Bool.true_and]
  obtain⟨h1,h2⟩:=h1;rcases hF with ⟨M,rfl⟩|rfl;all_goals
   first|(guard_hyp M;go_enter func123,ntmps123)|go_enter func35,ntmps35
   go_wp2;first|(guard_hyp M;go_loopw [14] (λi wr=>∃k:Nat,k<=s.size/\i=.int I k/\dO s k=ZF/\Below (J (U w)) w wr) (λi _=>s.size - (intOf i).toNat))|go_loopw [3] (λi wr=>∃k:Nat,k<=s.size/\i=.int I k/\dO s k=ZF/\Below (J (U w)) w wr) (λi _=>s.size - (intOf i).toNat)
   case atStart=>exact⟨0,by omega,rfl,rfl,Below.refl _ _⟩
   case round =>
    obtain⟨k,hk,rfl,g,l⟩:=hrel;have f:=ae l;have m:=ae g;clear l g;by_cases b:k<s.size
    ·by_cases p1:33<=(s[k].toNat:Int)
     ·by_cases p2:(s[k].toNat:Int)<=126
      ·go_wp2
       exact⟨⟨k+1,by omega,by go_num,by rw[jP b,m.out];simp;omega,f⟩,by simp[intOf];omega⟩
      ·go_wp2
       go_ret;exact⟨be (by rw[j.out,gI b (by omega)]),f⟩
     ·go_wp2
      go_ret;exact⟨be (by rw[j.out,gI b (by omega)]),f⟩
    ·have e:k=s.size:=by omega
     subst e;go_wp2;go_ret;exact⟨be (by rw[j.out,m.out]),f.out⟩
 ·rw[show av s=ZB by unfold av;rw[show decide (1<=s.size/\s.size<=60)=ZB by simp;omega,Bool.false_and]];by_cases h2:1<=(s.size:Int)
  ·have h3:¬ (s.size:Int)<=60:=λh=>h1 ⟨h2,h⟩;clear h1;rcases hF with ⟨M,rfl⟩|rfl;all_goals
    first|(guard_hyp M;go_enter func123,ntmps123)|go_enter func35,ntmps35
    go_wp2;go_ret;exact⟨rfl,Below.refl _ _⟩
  ·clear h1;rcases hF with ⟨M,rfl⟩|rfl;all_goals
    first|(guard_hyp M;go_enter func123,ntmps123)|go_enter func35,ntmps35
    go_wp2;go_ret;exact⟨rfl,Below.refl _ _⟩
abbrev fF (s:ByteArray)(w:G):=sL s w _ (.inl ⟨trivial,rfl⟩)
abbrev cV (s:ByteArray)(w:G):=sL s w _ (.inr rfl)
def kind:Int->Int
 |1=>1|3=>2|4=>2|5=>2|10=>3|11=>3|_=>0
def bR (op:Int):Int:=if op=1 then 2000 else 0
def dW (op:Int):Int:=if op=3∨op=4∨op=5 then 2000 else if op=10∨op=11 then 200 else 0
def cF (op:Int)(sz:Nat)(n:Int):Bool:=decide (1<=op/\op<=15/\(sz:Int)<=bR op/\0<=n/\n<=dW op)
theorem xo (op:Int)(s:ByteArray)(n:Int)(w:G)(f:s.size<=maxLen)(hz:¬ s.toList=[])(h0:0<s.size):Calls Pg 92 #[.agg #[.int I op,.string s,.int I n]] w λe g=>e=ZG (.bool (cF op s.size n))/\Below (J (U w)) w g:=by
 unfold maxLen at f;by_cases h:1<=op/\op<=15
 ·have b:op=1∨op=2∨op=3∨op=4∨op=5∨op=6∨op=7∨op=8∨op=9∨op=10∨op=11∨op=12∨op=13∨op=14∨op=15:=by omega
  clear h;rcases b with rfl|rfl|rfl|rfl|rfl|rfl|rfl|rfl|rfl|rfl|rfl|rfl|rfl|rfl|rfl;all_goals
   go_enter func92,ntmps92;go_wp2;all_goals go_ret
   all_goals refine⟨be ?_,(Below.refl _ _).alloc (Nat.le_refl _) _⟩
   all_goals (rw[Bool.eq_iff_iff];generalize s.size=z at *;simp[cF,bR,dW];try omega)
 ·rcases(show op<1∨15<op by omega) with h|h;all_goals
   go_enter func92,ntmps92;go_wp2;go_ret;refine⟨be ?_,(Below.refl _ _).alloc (Nat.le_refl _) _⟩;rw[Bool.eq_iff_iff];simp[cF];omega
theorem xq (op:Int)(n:Int)(w:G):Calls Pg 92 #[.agg #[.int I op,.string ⟨#[]⟩,.int I n]] w λe f=>e=ZG (.bool (cF op 0 n))/\Below (J (U w)) w f:=by
 by_cases h:1<=op/\op<=15
 ·have b:op=1∨op=2∨op=3∨op=4∨op=5∨op=6∨op=7∨op=8∨op=9∨op=10∨op=11∨op=12∨op=13∨op=14∨op=15:=by omega
  clear h;rcases b with rfl|rfl|rfl|rfl|rfl|rfl|rfl|rfl|rfl|rfl|rfl|rfl|rfl|rfl|rfl;all_goals
   go_enter func92,ntmps92;go_wp2;all_goals go_ret
   all_goals refine⟨be ?_,(Below.refl _ _).alloc (Nat.le_refl _) _⟩
   all_goals (rw[Bool.eq_iff_iff];simp[cF,bR,dW];try omega)
 ·rcases(show op<1∨15<op by omega) with h|h;all_goals
   go_enter func92,ntmps92;go_wp2;go_ret;refine⟨be ?_,(Below.refl _ _).alloc (Nat.le_refl _) _⟩;rw[Bool.eq_iff_iff];simp[cF];omega
theorem uX (op:Int)(s:ByteArray)(n:Int)(w:G)(f:s.size<=maxLen):Calls Pg 92 #[.agg #[.int I op,.string s,.int I n]] w λe b=>e=ZG (.bool (cF op s.size n))/\Below (J (U w)) w b:=by
 by_cases h:s.size=0;{have e:=lU h;subst e;exact xq op n w};{exact xo op s n w f (lY h) (by omega)}
theorem xr (k:Nat)(s:ByteArray)(n mt b:Int)(w:G)(h1:1<=(k:Int))(h2:(k:Int)<=15)
  (hT:ZT w (Q 0 (k*5+1) Y)=T (.int I mt)) (hN:ZT w (Q 0 (k*5+2) Y)=T (.int I b)) (hz:0<J (U w))
  (ht:(s.size:Int)<=mt) (hn:0<=n) :
  Calls Pg 129 #[.agg #[.int I k,.string s,.int I n]] w λe f=>e=ZG (.bool (decide (n<=b)))/\Below (J (U w)) w f:=by
 go_enter func129,ntmps129;go_wp2;go_quiet (fail);go_wp2;go_ret;exact⟨rfl,below_drewN ((Below.refl _ _).alloc (Nat.le_refl _) _) _⟩
theorem xt (k:Nat)(s:ByteArray)(n mt:Int)(w:G)(h1:1<=(k:Int))(h2:(k:Int)<=15)
  (hT:ZT w (Q 0 (k*5+1) Y)=T (.int I mt)) (hz:0<J (U w))
  (ht:(s.size:Int)<=mt) (hn:n<0) :
  Calls Pg 129 #[.agg #[.int I k,.string s,.int I n]] w λe b=>e=ZG (.bool ZB)/\Below (J (U w)) w b:=by
 have hd:decide (0<=n)=ZB:=by simp;omega
 go_enter func129,ntmps129;go_wp2;go_quiet (fail);go_wp2;go_ret;exact⟨rfl,below_drewN ((Below.refl _ _).alloc (Nat.le_refl _) _) _⟩
theorem xu (k:Nat)(s:ByteArray)(n mt:Int)(w:G)(h1:1<=(k:Int))(h2:(k:Int)<=15)
  (hT:ZT w (Q 0 (k*5+1) Y)=T (.int I mt)) (hz:0<J (U w))
  (ht:mt<(s.size:Int)) :
  Calls Pg 129 #[.agg #[.int I k,.string s,.int I n]] w λe b=>e=ZG (.bool ZB)/\Below (J (U w)) w b:=by
 have hd:decide ((s.size:Int)<=mt)=ZB:=by simp;omega
 go_enter func129,ntmps129;go_wp2;go_quiet (fail);go_wp2;go_ret;exact⟨rfl,below_drewN ((Below.refl _ _).alloc (Nat.le_refl _) _) _⟩
theorem xv (op:Int)(s:ByteArray)(n:Int)(w:G)(h:op<1∨15<op):Calls Pg 129 #[.agg #[.int I op,.string s,.int I n]] w λe b=>e=ZG (.bool ZB)/\Below (J (U w)) w b:=by
 rcases h with h|h;all_goals
  go_enter func129,ntmps129;go_wp2;go_ret;exact⟨rfl,(Below.refl _ _).alloc (Nat.le_refl _) _⟩
def Tab (w:G):Prop:=0<J (U w)/\∀k:Nat,k<16->ZT w (Q 0 (k*5+1) Y)=T (.int I (bR k))/\ZT w (Q 0 (k*5+2) Y)=T (.int I (dW k))
theorem sM (op:Int)(s:ByteArray)(n:Int)(w:G)(f:Tab w):Calls Pg 129 #[.agg #[.int I op,.string s,.int I n]] w λe l=>e=ZG (.bool (cF op s.size n))/\Below (J (U w)) w l:=by
 by_cases h:1<=op/\op<=15;{obtain⟨k,rfl⟩:=Int.eq_ofNat_of_zero_le (show 0<=op by omega);obtain⟨h1,h2⟩:=h;obtain⟨i,j⟩:=f.2 k (by omega);by_cases b:(s.size:Int)<=bR k;{by_cases hn:0<=n;{have e:cF (k:Int) s.size n=decide (n<=dW k):=(by unfold cF;rw[Bool.eq_iff_iff,decide_eq_true_eq,decide_eq_true_eq];exact⟨λh=>h.2.2.2.2,λh=>⟨h1,h2,b,hn,h⟩⟩);rw[e];exact xr k s n _ _ w h1 h2 i j f.1 b hn};{have e:cF (k:Int) s.size n=ZB:=(by unfold cF;rw[decide_eq_false_iff_not];exact λh=>hn h.2.2.2.1);rw[e];exact xt k s n _ w h1 h2 i f.1 b (by omega)}};{have e:cF (k:Int) s.size n=ZB:=(by unfold cF;rw[decide_eq_false_iff_not];exact λh=>b h.2.2.1);rw[e];exact xu k s n _ w h1 h2 i f.1 (by omega)}};{have e:cF op s.size n=ZB:=(by unfold cF;rw[decide_eq_false_iff_not];exact λg=>h ⟨g.1,g.2.1⟩);rw[e];exact xv op s n w (by omega)}
def da (f:Nat->Ins):Nat->Bool
 |0=>ZF
 |k+1=>da f k && cF (f k).op (f k).s.size (f k).n
theorem qP{f:Nat->Ins}{k:Nat}(h:k<=n)(hn:da f n=ZF):da f k=ZF:=by
 induction n with
 |zero =>
  obtain rfl:k=0:=by omega
  exact hn
 |succ m b =>
  by_cases e:k=m+1;{subst e;exact hn};{simp only[da,Bool.and_eq_true] at hn;exact b (by omega) hn.1}
theorem oX{f:Nat->Ins}{k:Nat}(h:k<n)(b:cF (f k).op (f k).s.size (f k).n=ZB):da f n=ZB:=by
 cases e:da f n with
 |false=>rfl
 |true =>have h2:=qP (show k+1<=n by omega) e;simp[da,b] at h2
def valid (f:Nat->Ins)(n:Nat):Bool:=da f n && decide (1<=(n:Int)/\(n:Int)<=200)
theorem bO{f:Nat->Ins}(h:valid f n=ZF):da f n=ZF/\1<=(n:Int)/\(n:Int)<=200:=by unfold valid at h;rw[Bool.and_eq_true,decide_eq_true_eq] at h;exact h
theorem jC{f:Nat->Ins}{k:Nat}(h:da f n=ZF)(hk:k<n):cF (f k).op (f k).s.size (f k).n=ZF:=by have:=qP (show k+1<=n by omega) h;simp only[da,Bool.and_eq_true] at this;exact this.2
theorem fO (b off n cap:Nat)(f:Nat->Ins)(w:G)(hn:n<=1048576)(hb:b<J (U w))(t:∀i,i<n->AtIns w b off i (f i))(u:∀i,i<n->(f i).s.size<=maxLen):Calls Pg 65 #[.agg #[Z (T (Q b off Y)) n cap]] w λe z=>e=ZG (.bool (valid f n))/\Below (J (U w)) w z:=by
 have C:=ae t;have B:=ae u;clear t u;go_enter func65,ntmps65;go_wp2;go_loopw [3] (λi wr=>∃k:Nat,k<=n/\i=.int I k/\da f k=ZF/\Below (J (U w)+1) (w.alloc (N #[Z (T (Q b off Y)) n cap] 41)) wr) (λi _=>n - (intOf i).toNat);case atStart=>exact⟨0,by omega,rfl,rfl,Below.refl _ _⟩
 case round =>
  obtain⟨k,hk,rfl,m,g⟩:=hrel;have ZV:=ae g;have r:=ae m;have x:ZT wr (Q (J (U w)) 0 Y)=T (Z (T (Q b off Y)) n cap):=by rw[g.cell (p:=(Q (J (U w)) 0 Y)) (by simp)];simp
  have j:Hid (Below (J (U w)) w wr):=((Below.refl _ _).alloc (Nat.le_refl _) _).trans (g.mono (by omega));have y:J (U w)+1<=J (U wr):=by have:=g.size;simpa using this
  clear g m;by_cases h:k<n
  ·obtain⟨c0,c1,c2⟩:=(C k h).aa j hb;go_wp2_with fail;refine(uX _ _ _ _ (B k h)).mono ?_;rintro e z ⟨rfl,l⟩;have o:=ae l;clear l c0 c1 c2 x;cases hi:cF (f k).op (f k).s.size (f k).n with
   |false =>have q:=ae hi;clear hi;go_wp2;go_ret;refine⟨be ?_,j.trans (o.mono j.size)⟩;simp[valid,oX h q.out]
   |true =>have q:=ae hi;clear hi;go_wp2;exact⟨⟨k+1,by omega,by go_num,by simp[da,r.out,q.out],ZV.trans (o.mono y)⟩,by simp[intOf];omega⟩
  ·have e:k=n:=by omega
   subst e;by_cases h1:1<=(k:Int)
   all_goals
    go_wp2;go_ret;refine⟨be ?_,j⟩;rw[Bool.eq_iff_iff];simp[valid,r.out];try omega
theorem Tab.aa (h:Tab w)(hb:Below B w g)(b:0<B):Tab g :=
 ⟨Nat.lt_of_lt_of_le h.1 hb.size,λk f=>⟨(hb.cell (p:=(Q 0 _ Y)) b).trans (h.2 k f).1,(hb.cell (p:=(Q 0 _ Y)) b).trans (h.2 k f).2⟩⟩
theorem lZ (a:Option Addr)(n cap:Nat)(f:Nat->Ins)(w:G)(hn:n<=1048576)(h:(n:Int)<1∨200<(n:Int)):Calls Pg 104 #[.agg #[Z a n cap]] w λe b=>e=ZG (.bool (valid f n))/\Below (J (U w)) w b:=by
 have e:valid f n=ZB:=by unfold valid;rw[show decide (1<=(n:Int)/\(n:Int)<=200)=ZB by simp;omega,Bool.and_false]
 rw[e];clear e;rcases h with h|h;all_goals
  go_enter func104,ntmps104;go_wp2;go_ret;exact⟨rfl,(Below.refl _ _).alloc (Nat.le_refl _) _⟩
theorem rQ (b off n cap:Nat)(f:Nat->Ins)(w:G)(h1:1<=(n:Int))(h2:(n:Int)<=200)(hb:b<J (U w))(y:∀i,i<n->AtIns w b off i (f i))(q:Tab w):Calls Pg 104 #[.agg #[Z (T (Q b off Y)) n cap]] w λe t=>e=ZG (.bool (valid f n))/\Below (J (U w)) w t:=by
 have B:=ae y;have ZV:=ae q;have u:=q.1;have z:Hid (valid f n=da f n):=by show valid f n=da f n;unfold valid;rw[show decide (1<=(n:Int)/\(n:Int)<=200)=ZF by simp;omega,Bool.and_true]
 clear y q;go_enter func104,ntmps104;go_wp2;go_loopw [18] (λi wr=>∃k:Nat,k<=n/\i=.int I k/\da f k=ZF/\Below (J (U w)) w wr) (λi _=>n - (intOf i).toNat);case atStart=>exact⟨0,by omega,rfl,rfl,(Below.refl _ _).alloc (Nat.le_refl _) _⟩
 case round =>
  obtain⟨k,hk,rfl,l,p⟩:=hrel;have g:=ae p;have x:=ae l;have m:J (U w)<=J (U wr):=p.size;clear p l;by_cases j:k<n
  ·obtain⟨c0,c1,c2⟩:=(B k j).aa g hb;go_wp2_with fail;refine(sM _ _ _ _ (ZV.aa (g.alloc m _) u)).mono ?_;rintro e t ⟨rfl,h⟩;have o:Hid (Below (J (U w)) w t):=(g.alloc m _).trans (h.mono (by simp;omega));clear h c0 c1 c2;cases hi:cF (f k).op (f k).s.size (f k).n with
   |false =>have r:=ae hi;clear hi;go_wp2;go_ret;refine⟨be ?_,o⟩;rw[z.out,oX j r.out]
   |true =>have r:=ae hi;clear hi;go_wp2;exact⟨⟨k+1,by omega,by go_num,by simp[da,x.out,r.out],o⟩,by simp[intOf];omega⟩
  ·have e:k=n:=by omega
   subst e;go_wp2;go_ret;exact⟨be (by rw[z.out,x.out]),g.out⟩
theorem rR (b off n cap:Nat)(f:Nat->Ins)(w:G)(hn:n<=1048576)(hb:b<J (U w))(j:∀i,i<n->AtIns w b off i (f i))(g:Tab w):Calls Pg 104 #[.agg #[Z (T (Q b off Y)) n cap]] w λe l=>e=ZG (.bool (valid f n))/\Below (J (U w)) w l:=by
 by_cases h:(n:Int)<1∨200<(n:Int)
 {exact lZ _ n cap f w hn h};{exact rQ b off n cap f w (by omega) (by omega) hb j g}
theorem xw (f:Nat->Ins):valid f 0=ZB:=by simp[valid]
theorem ma (a:Option Addr)(n cap:Nat)(f:Nat->Ins)(w:G)(hn:n<=1048576)(h:SlIns w a n f)(j:Tab w):Calls Pg 104 #[.agg #[Z a n cap]] w λe i=>e=ZG (.bool (valid f n))/\Below (J (U w)) w i:=by
 rcases h with rfl|⟨b,off,rfl,g⟩
 {exact lZ a 0 cap f w (by omega) (by simp)};{exact rR b off n cap f w hn g.1 g.2 j}
theorem rS (a:Option Addr)(cap:Nat)(f:Nat->Ins)(w:G):Calls Pg 65 #[.agg #[Z a 0 cap]] w λe g=>e=ZG (.bool (valid f 0))/\Below (J (U w)) w g:=by
 rw[xw];have b:=ae ((Below.refl (J (U w)) w).alloc (Nat.le_refl _) (N #[Z a 0 cap] 41));go_enter func65,ntmps65;go_wp2;go_loop [3] (λi=>i=.int I 0) (λ_=>0);case atStart=>rfl
 case round =>subst hrel;go_wp2;go_ret;exact⟨rfl,b⟩
theorem jj (a:Option Addr)(n cap:Nat)(f:Nat->Ins)(w:G)(hn:n<=1048576)(h:SlIns w a n f)(j:∀i,i<n->(f i).s.size<=maxLen):Calls Pg 65 #[.agg #[Z a n cap]] w λe l=>e=ZG (.bool (valid f n))/\Below (J (U w)) w l:=by
 rcases h with rfl|⟨b,off,rfl,g⟩
 {exact rS a cap f w};{exact fO b off n cap f w hn g.1 g.2 j}
structure Only (b:Nat)(w w':G):Prop where
 os:w'.os=w.os
 tape:w'.tape=w.tape
 output:w'.output=w.output
 size:J (U w)<=J (U w')
 block:∀k,k<J (U w)->k≠b->w'.heap[k]?=w.heap[k]?
 ty:∀cs t fz,w.heap[b]?=T (N cs t fz)->∃cs',w'.heap[b]?=T (N cs' t fz)
theorem Only.refl (b:Nat)(w:G):Only b w w:=⟨rfl,rfl,rfl,Nat.le_refl _,λ_ _ _=>rfl,λf _ _ h=>⟨f,h⟩⟩
theorem ag{o:Obj}(h:w.heap[i]?=T o):i<J (U w):=by
 rcases Nat.lt_or_ge i (J (U w)) with b|b;{exact b};{rw[Array.getElem?_eq_none b] at h;cases h}
theorem bD{j:Nat}{f:Array ZD}{fz:Nat × Nat}(h:w.heap[b]?=T (N f t fz))(v:ZD):(A w (Q b j Y) v).heap[b]?=T (N (f.setIfInBounds j v) t fz):=by simp only[World.setCell,Array.getElem?_modify,if_pos,h,Option.map_some];rfl
theorem Only.trans{v:G}(h:Only b u v)(k:Only b v w):Only b u w :=
 ⟨k.os.trans h.os,k.tape.trans h.tape,k.output.trans h.output,Nat.le_trans h.size k.size,λi hi f=>(k.block i (Nat.lt_of_lt_of_le hi h.size) f).trans (h.block i hi f),λg t fz hb=>let ⟨cs1,h1⟩:=h.ty g t fz hb;k.ty cs1 t fz h1⟩
theorem Only.q{f:G}(h:Below (J (U w)) w f):Only b w f:=⟨h.os,h.tape,h.output,h.size,λi hi _=>h.block i hi,λg _ _ hb=>⟨g,(h.block b (ag hb)).trans hb⟩⟩
theorem Only.drew (h:Only b u w):Only b u w.drew:=h.trans (Only.q (Below.refl _ _).drew)
theorem Only.al (h:Only b u w)(o:Obj):Only b u (w.alloc o):=h.trans (Only.q ((Below.refl _ _).alloc (Nat.le_refl _) _))
theorem Only.aa{f:G}(h:Only b w f)(hB:B<=b)(hw:B<=J (U w)):Below B w f:=⟨h.os,h.tape,h.output,h.size,λk hk=>h.block k (by omega) (by omega)⟩
theorem Only.cell{f:G}(h:Only b w f)(k o:Nat)(g:k<J (U w))(hb:k≠b):ZT f (Q k o Y)=ZT w (Q k o Y):=World.cell?_of_block (w:=w) (a:=(Q k o Y)) (h.block k g hb)
theorem cj{a:G}(h:Only b a w)(j:Nat)(v:ZD):Only b a (A w (Q b j Y) v) :=
 h.trans ⟨rfl,rfl,rfl,by simp[World.setCell],λk _ f=>Below.heap_setCell _ _ _ _ (by simpa using f),λ_ _ _ hb=>⟨_,bD hb v⟩⟩
theorem mc{P:Program}{a:Act}(b:fn.results=#[])(f:a.defers=[])(hR:R (ZG (.tuple #[])) w):bodyPost P fn R .normal a w :=
 bodyPost_end (v:=.tuple #[]) (by simp[results,b]) f hR
theorem pU{P:Program}{a:Act}(b:fn.results=#[])(f:a.defers=[])(hR:R (ZG (.tuple #[])) w):bodyPost P fn R .ret a w :=
 bodyPost_ret (v:=.tuple #[]) (by simp[results,b]) f hR
def Cs (w:G)(b n:Nat)(F:Nat->ZD):Prop:=b<J (U w)/\∀j,j<n->ZT w (Q b j Y)=T (F j)/\ZU w (Q b j Y)=ZB
theorem Cs.aa{F:Nat->ZD}(h:Cs w b n F)(hb:Below B w g)(f:b<B):Cs g b n F :=
 ⟨Nat.lt_of_lt_of_le h.1 hb.size,λj i=>⟨(hb.cell (p:=(Q b _ Y)) f).trans (h.2 j i).1,(hb.frozen (p:=(Q b _ Y)) f).trans (h.2 j i).2⟩⟩
theorem Cs.set{F ZS:Nat->ZD}(h:Cs w b n F)(j:Nat)(v:ZD)(i:∀x,x<n->ZS x=if x=j then v else F x):Cs (A w (Q b j Y) v) b n ZS:=by
 refine⟨by simpa using h.1,λx f=>⟨?_,?_⟩⟩;{rw[i x f];by_cases e:x=j;{subst e;exact(World.cell?_setCell_same' _ _ _ (by rw[(h.2 x f).1];rfl)).trans (by simp)};{have g:((Q b j Y):Addr)≠(Q b x Y):=(by intro q;exact e (by simpa using q.symm));exact(World.cell?_setCell_other _ _ _ _ g).trans ((h.2 x f).1.trans (by simp[e]))}};{have:=(h.2 x f).2;simpa using this}
structure Turn where
 K:Bool
 E:Int
 B:ByteArray
 ask:Bool
 e:ByteArray
 j:Int
def Turn.v (t:Turn):ZD:=.agg #[.bool t.K,.int I t.E,.string t.B,.bool t.ask,.string t.e,.int I t.j]
def cW:Turn:=⟨ZB,0,⟨#[]⟩,ZB,⟨#[]⟩,0⟩
structure Mst where
 S:Nat->ByteArray
 size:Nat
 W:Int
 j:Int
 D:Int
 t:Turn
def Mst.F (b:ZD)(m:Mst)(j:Nat):ZD :=
 if j<50 then .string (m.S j) else if j=50 then .int I m.size else if j=51 then b else if j=52 then .int I m.W else if j=53 then .int I m.j else if j=54 then .int I m.D
 else if j=55 then .bool m.t.K else if j=56 then .int I m.t.E else if j=57 then .string m.t.B else if j=58 then .bool m.t.ask else if j=59 then .string m.t.e else if j=60 then .int I m.t.j else .int I 0
def MAt (w:G)(b:Nat)(f:ZD)(m:Mst):Prop:=Cs w b 61 (m.F f)
theorem MAt.aa{f:G}{g:ZD}{m:Mst}(h:MAt w b g m)(hb:Below B w f)(i:b<B):MAt f b g m:=Cs.aa h hb i
theorem MAt.lt{m:Mst}(h:MAt w b f m):b<J (U w):=h.1
theorem MAt.txt{g:ZD}{m:Mst}(h:MAt w b g m)(j:Nat)(f:j<50):ZT w (Q b j Y)=T (.string (m.S j))/\ZU w (Q b j Y)=ZB :=
 ⟨(h.2 j (by omega)).1.trans (by simp[Mst.F,f]),(h.2 j (by omega)).2⟩
theorem MAt.ad{m:Mst}(h:MAt w b f m)(j:Nat)(v:ZD)(g:j<61)(i:m.F f j=v):ZT w (Q b j Y)=T v/\ZU w (Q b j Y)=ZB :=
 ⟨(h.2 j g).1.trans (by rw[i]),(h.2 j g).2⟩
def upd (S:Nat->ByteArray)(k:Nat)(t:ByteArray)(j:Nat):ByteArray:=if j=k then t else S j
theorem MAt.setTxt{m:Mst}(h:MAt w b f m)(k:Nat)(g:k<50)(t:ByteArray):MAt (A w (Q b k Y) (.string t)) b f { m with S:=upd m.S k t } :=
 Cs.set h k _ (λx _=>by
  by_cases e:x=k
  ·subst e;simp[Mst.F,g,upd]
  ·simp[Mst.F,upd,e])
theorem MAt.setSize{m:Mst}(h:MAt w b f m)(k:Nat)(z:Int)(hz:z=k):MAt (A w (Q b 50 Y) (.int I z)) b f { m with size:=k }:=by
 subst hz
 exact Cs.set h 50 _ (λx _=>by
  by_cases e:x=50;{subst e;simp[Mst.F]}
  ·simp[Mst.F,e])
theorem MAt.setPlace{m:Mst}(h:MAt w b f m)(k:Int):MAt (A w (Q b 52 Y) (.int I k)) b f { m with W:=k } :=
 Cs.set h 52 _ (λx _=>by
  by_cases e:x=52
  ·subst e;simp[Mst.F]
  ·simp[Mst.F,e])
theorem MAt.setSteps{m:Mst}(h:MAt w b f m)(k:Int):MAt (A w (Q b 53 Y) (.int I k)) b f { m with j:=k } :=
 Cs.set h 53 _ (λx _=>by
  by_cases e:x=53
  ·subst e;simp[Mst.F]
  ·simp[Mst.F,e])
theorem MAt.setLooks{m:Mst}(h:MAt w b f m)(k:Int):MAt (A w (Q b 54 Y) (.int I k)) b f { m with D:=k } :=
 Cs.set h 54 _ (λx _=>by
  by_cases e:x=54
  ·subst e;simp[Mst.F]
  ·simp[Mst.F,e])
theorem MAt.set55{m:Mst}(h:MAt w b f m)(x:Bool):MAt (A w (Q b 55 Y) (.bool x)) b f { m with t:={ m.t with K:=x } } :=
 Cs.set h 55 _ (λy hy=>by
  by_cases e:y=55
  ·subst e;simp[Mst.F]
  ·simp only[Mst.F,e,if_false])
theorem MAt.set56{m:Mst}(h:MAt w b f m)(x:Int):MAt (A w (Q b 56 Y) (.int I x)) b f { m with t:={ m.t with E:=x } } :=
 Cs.set h 56 _ (λy hy=>by
  by_cases e:y=56
  ·subst e;simp[Mst.F]
  ·simp only[Mst.F,e,if_false])
theorem MAt.set57{m:Mst}(h:MAt w b f m)(x:ByteArray):MAt (A w (Q b 57 Y) (.string x)) b f { m with t:={ m.t with B:=x } } :=
 Cs.set h 57 _ (λy hy=>by
  by_cases e:y=57
  ·subst e;simp[Mst.F]
  ·simp only[Mst.F,e,if_false])
theorem MAt.set58{m:Mst}(h:MAt w b f m)(x:Bool):MAt (A w (Q b 58 Y) (.bool x)) b f { m with t:={ m.t with ask:=x } } :=
 Cs.set h 58 _ (λy hy=>by
  by_cases e:y=58
  ·subst e;simp[Mst.F]
  ·simp only[Mst.F,e,if_false])
theorem MAt.set59{m:Mst}(h:MAt w b f m)(x:ByteArray):MAt (A w (Q b 59 Y) (.string x)) b f { m with t:={ m.t with e:=x } } :=
 Cs.set h 59 _ (λy hy=>by
  by_cases e:y=59
  ·subst e;simp[Mst.F]
  ·simp only[Mst.F,e,if_false])
theorem MAt.set60{m:Mst}(h:MAt w b f m)(x:Int):MAt (A w (Q b 60 Y) (.int I x)) b f { m with t:={ m.t with j:=x } } :=
 Cs.set h 60 _ (λy hy=>by
  by_cases e:y=60
  ·subst e;simp[Mst.F]
  ·simp only[Mst.F,e,if_false])
theorem MAt.setTurn{m:Mst}(h:MAt w b f m)(t:Turn):MAt (A (A (A (A (A (A w (Q b 55 Y) (.bool t.K)) (Q b 56 Y) (.int I t.E)) (Q b 57 Y) (.string t.B)) (Q b 58 Y) (.bool t.ask)) (Q b 59 Y) (.string t.e)) (Q b 60 Y) (.int I t.j)) b f { m with t:=t } :=
 (((((h.set55 t.K).set56 t.E).set57 t.B).set58 t.ask).set59 t.e).set60 t.j
theorem MAt.turn{m:Mst}(h:MAt w b f m):(ZT w (Q b 55 Y)=T (.bool m.t.K)/\ZU w (Q b 55 Y)=ZB)/\(ZT w (Q b 56 Y)=T (.int I m.t.E)/\ZU w (Q b 56 Y)=ZB)/\(ZT w (Q b 57 Y)=T (.string m.t.B)/\ZU w (Q b 57 Y)=ZB)/\(ZT w (Q b 58 Y)=T (.bool m.t.ask)/\ZU w (Q b 58 Y)=ZB)/\(ZT w (Q b 59 Y)=T (.string m.t.e)/\ZU w (Q b 59 Y)=ZB)/\(ZT w (Q b 60 Y)=T (.int I m.t.j)/\ZU w (Q b 60 Y)=ZB) :=
 ⟨h.ad 55 _ (by omega) (by simp[Mst.F]),h.ad 56 _ (by omega) (by simp[Mst.F]),h.ad 57 _ (by omega) (by simp[Mst.F]),h.ad 58 _ (by omega) (by simp[Mst.F]),h.ad 59 _ (by omega) (by simp[Mst.F]),h.ad 60 _ (by omega) (by simp[Mst.F])⟩
theorem Ef{a:G}(h:Only b a w)(t:Turn):Only b a (A (A (A (A (A (A w (Q b 55 Y) (.bool t.K)) (Q b 56 Y) (.int I t.E)) (Q b 57 Y) (.string t.B)) (Q b 58 Y) (.bool t.ask)) (Q b 59 Y) (.string t.e)) (Q b 60 Y) (.int I t.j)) :=
 cj (cj (cj (cj (cj (cj h _ _) _ _) _ _) _ _) _ _) _ _
theorem pV (b:Nat)(i:ZD)(m:Mst)(t:ByteArray)(w:G)(hM:MAt w b i m)(g:m.size<50):Calls Pg 154 #[.pointer (T (Q b 0 Y)),.string t] w λe h=>e=ZG (.tuple #[])/\MAt h b i { m with S:=upd m.S m.size t,size:=m.size+1 }/\Only b w h:=by have j:=ae hM;obtain⟨c0,z0⟩:=hM.ad 50 (.int I m.size) (by omega) (by simp[Mst.F]);obtain⟨c1,z1⟩:=hM.txt m.size g;clear hM;go_enter func154,ntmps154;go_wp2;go_region_with fail;have f:=ae ((j.setTxt m.size g t).aa (Below.refl _ _).drew (Nat.lt_succ_self _));clear c0 z0 c1 z1;obtain⟨c0,z0⟩:=f.ad 50 (.int I m.size) (by omega) (by simp[Mst.F]);go_wp2;refine mc rfl rfl ?_;exact⟨rfl,f.setSize (m.size+1) _ (by simp),cj (cj (Only.refl _ _) _ _).drew _ _⟩
theorem kI (b:Nat)(h:ZD)(m:Mst)(k:Nat)(w:G)(hM:MAt w b h m)(i:m.size=k+1)(j:k<50):Calls Pg 163 #[.pointer (T (Q b 0 Y))] w λe g=>e=ZG (.string (m.S k))/\MAt g b h { m with size:=k }/\Only b w g:=by have l:=ae hM;obtain⟨c0,z0⟩:=hM.ad 50 (.int I (k+1)) (by omega) (by simp[Mst.F,i]);clear hM;go_enter func163,ntmps163;go_wp2_with fail;have f:=ae (l.setSize k k rfl);obtain⟨c1,z1⟩:=f.txt k j;obtain⟨c2,z2⟩:=f.ad 50 (.int I k) (by omega) (by simp[Mst.F]);clear c0 z0;go_region_with fail;go_wp2;go_ret;exact⟨rfl,f.aa (Below.refl _ _).drew (Nat.lt_succ_self _),(cj (Only.refl _ _) _ _).drew⟩
theorem ke (b:Nat)(f:ZD)(m:Mst)(c:Int)(t:ByteArray)(w:G)(hM:MAt w b f m):Calls Pg 156 #[.pointer (T (Q b 0 Y)),.int I c,.string t] w λe g=>e=ZG (.tuple #[])/\MAt g b f { m with t:=⟨ZF,c,t,ZB,⟨#[]⟩,m.j⟩ }/\Only b w g:=by have h:=ae hM;obtain⟨c0,z0⟩:=hM.ad 53 (.int I m.j) (by omega) (by simp[Mst.F]);obtain⟨c5,z5⟩:=hM.ad 55 (.bool m.t.K) (by omega) (by simp[Mst.F]);obtain⟨c6,z6⟩:=hM.ad 56 (.int I m.t.E) (by omega) (by simp[Mst.F]);obtain⟨c7,z7⟩:=hM.ad 57 (.string m.t.B) (by omega) (by simp[Mst.F]);obtain⟨c8,z8⟩:=hM.ad 58 (.bool m.t.ask) (by omega) (by simp[Mst.F]);obtain⟨c9,z9⟩:=hM.ad 59 (.string m.t.e) (by omega) (by simp[Mst.F]);obtain⟨c10,z10⟩:=hM.ad 60 (.int I m.t.j) (by omega) (by simp[Mst.F]);clear hM;go_enter func156,ntmps156;go_wp2;refine mc rfl rfl ?_;exact⟨rfl,h.setTurn ⟨ZF,c,t,ZB,⟨#[]⟩,m.j⟩,cj (cj (cj (cj (cj (cj (Only.refl _ _) _ _) _ _) _ _) _ _) _ _) _ _⟩
def aO (k:Nat):Nat:=if k=2∨k=6∨k=8 then 2 else if k=0∨k=1∨k=10∨15<k then 0 else 1
def bF (k:Nat):Nat:=if k=7∨k=8 then 2 else if k=0∨k=9∨k=10∨k=11∨13<k then 0 else 1
def Tab2 (w:G):Prop:=0<J (U w)/\∀k:Nat,k<16->ZT w (Q 0 (k*5+3) Y)=T (.int I (aO k))/\ZT w (Q 0 (k*5+4) Y)=T (.int I (bF k))
theorem Tab2.aa (h:Tab2 w)(hb:Below B w g)(b:0<B):Tab2 g :=
 ⟨Nat.lt_of_lt_of_le h.1 hb.size,λk f=>⟨(hb.cell (p:=(Q 0 _ Y)) b).trans (h.2 k f).1,(hb.cell (p:=(Q 0 _ Y)) b).trans (h.2 k f).2⟩⟩
theorem bears_any (b:Nat)(g:ZD)(m:Mst)(k:Nat)(w:G)(hM:MAt w b g m)(f:Tab2 w)(h1:1<=(k:Int))(h2:(k:Int)<=15)(hs:m.size<=50):Calls Pg 159 #[.pointer (T (Q b 0 Y)),.int I k] w λe h=>e=ZG (.bool (decide (aO k<=m.size/\m.size - aO k+bF k<=50)))/\Below (J (U w)) w h:=by
 have hT0:=f.1;obtain⟨c0,z0⟩:=hM.ad 50 (.int I m.size) (by omega) (by simp[Mst.F]);obtain⟨t0,t1⟩:=f.2 k (by omega);have k1:aO k<=2:=by unfold aO;split<;>(try split)<;>omega
 have k2:bF k<=2:=by unfold bF;split<;>(try split)<;>omega
 clear hM f;generalize aO k=x at *;generalize bF k=y at *;by_cases hx:x<=m.size;{go_enter func159,ntmps159;go_wp2_with fail;go_quiet (fail);go_wp2;go_ret;refine⟨be ?_,below_drewN (Below.refl _ _) _⟩;rw[Bool.eq_iff_iff];simp;omega};{go_enter func159,ntmps159;go_wp2_with fail;go_quiet (fail);go_wp2_with fail;go_ret;refine⟨be ?_,below_drewN (Below.refl _ _) _⟩;rw[Bool.eq_iff_iff];simp;omega}
structure ay where
 has:Bool
 E:Int
 B:ByteArray
def AtReply (w:G)(b off i:Nat)(x:ay):Prop :=
 ZT w (Q b (off+i*3) Y)=T (.bool x.has)/\ZT w (Q b (off+i*3+1) Y)=T (.int I x.E)/\ZT w (Q b (off+i*3+2) Y)=T (.string x.B)
theorem AtReply.aa{x:ay}(h:AtReply w b off i x)(hb:Below B w g)(f:b<B):AtReply g b off i x :=
 ⟨(hb.cell (p:=(Q b _ Y)) f).trans h.1,(hb.cell (p:=(Q b _ Y)) f).trans h.2.1,(hb.cell (p:=(Q b _ Y)) f).trans h.2.2⟩
def RowReply (w:G)(b off n:Nat)(f:Nat->ay):Prop:=b<J (U w)/\∀i,i<n->AtReply w b off i (f i)
theorem RowReply.aa{f:Nat->ay}(h:RowReply w b off n f)(hb:Below B w g)(j:J (U w)<=B):RowReply g b off n f :=
 ⟨Nat.lt_of_lt_of_le h.1 hb.size,λi hi=>(h.2 i hi).aa hb (Nat.lt_of_lt_of_le h.1 j)⟩
structure Link where
 e:ByteArray
 ask:Bool
 has:Bool
 L:Int
def AtLink (w:G)(b off i:Nat)(x:Link):Prop :=
 ZT w (Q b (off+i*4) Y)=T (.string x.e)/\ZT w (Q b (off+i*4+1) Y)=T (.bool x.ask)/\ZT w (Q b (off+i*4+2) Y)=T (.bool x.has)/\ZT w (Q b (off+i*4+3) Y)=T (.int I x.L)
theorem AtLink.aa{x:Link}(h:AtLink w b off i x)(hb:Below B w g)(f:b<B):AtLink g b off i x :=
 ⟨(hb.cell (p:=(Q b _ Y)) f).trans h.1,(hb.cell (p:=(Q b _ Y)) f).trans h.2.1,(hb.cell (p:=(Q b _ Y)) f).trans h.2.2.1,(hb.cell (p:=(Q b _ Y)) f).trans h.2.2.2⟩
def RowLink (w:G)(b off n:Nat)(f:Nat->Link):Prop:=b<J (U w)/\∀i,i<n->AtLink w b off i (f i)
theorem RowLink.aa{f:Nat->Link}(h:RowLink w b off n f)(hb:Below B w g)(j:J (U w)<=B):RowLink g b off n f :=
 ⟨Nat.lt_of_lt_of_le h.1 hb.size,λi hi=>(h.2 i hi).aa hb (Nat.lt_of_lt_of_le h.1 j)⟩
def SlLink (w:G)(a:Option Addr)(n:Nat)(f:Nat->Link):Prop:=n=0∨∃b off,a=T (Q b off Y)/\RowLink w b off n f
theorem SlLink.aa{f:Nat->Link}(h:SlLink w a n f)(hb:Below B w g)(i:J (U w)<=B):SlLink g a n f:=by
 rcases h with h|⟨b,off,j,l⟩
 {exact .inl h};{exact .inr ⟨b,off,j,l.aa hb i⟩}
theorem kJ:(Pg.info? 68).map (λi=>(i.zero,i.size,i.bytes))=T (T (.agg #[.string ⟨#[]⟩,.bool ZB,.bool ZB,.int I 0]),4,32):=by kernel_rfl
structure af where
 e:ByteArray
 H:Int
 E:Int
 B:ByteArray
 l:Nat
 u:Nat->Ins
 f:Nat
 m:Nat->Link
def eY (x:af):Prop:=x.e.size<=maxLen/\x.B.size<=maxLen/\((x.l:Int)<=9223372036854775807/\∀j,j<x.l->(x.u j).s.size<=maxLen)/\((x.f:Int)<=9223372036854775807/\∀j,j<x.f->(x.m j).e.size<=maxLen)
def bJ (x:af):Prop:=x.l<=1048576/\x.f<=1048576
def AtDeed (w:G)(b off i:Nat)(x:af):Prop :=
 ZT w (Q b (off+i*6) Y)=T (.string x.e)/\ZT w (Q b (off+i*6+1) Y)=T (.int I x.H)/\ZT w (Q b (off+i*6+2) Y)=T (.int I x.E)/\ZT w (Q b (off+i*6+3) Y)=T (.string x.B)/\(∃a cap,ZT w (Q b (off+i*6+4) Y)=T (Z a x.l cap)/\SlIns w a x.l x.u)/\(∃a cap,ZT w (Q b (off+i*6+5) Y)=T (Z a x.f cap)/\SlLink w a x.f x.m)
theorem AtDeed.aa{m:G}{x:af}(h:AtDeed w b off i x)(hb:Below B w m)(f:J (U w)<=B)(g:b<J (U w)):AtDeed m b off i x:=by obtain⟨r,n,o,q,⟨a0,l,s0,r0⟩,⟨a1,j,s1,r1⟩⟩:=h;refine⟨(hb.cell (p:=(Q b _ Y)) (Nat.lt_of_lt_of_le g f)).trans r,(hb.cell (p:=(Q b _ Y)) (Nat.lt_of_lt_of_le g f)).trans n,(hb.cell (p:=(Q b _ Y)) (Nat.lt_of_lt_of_le g f)).trans o,(hb.cell (p:=(Q b _ Y)) (Nat.lt_of_lt_of_le g f)).trans q,⟨a0,l,(hb.cell (p:=(Q b _ Y)) (Nat.lt_of_lt_of_le g f)).trans s0,r0.aa hb f⟩,⟨a1,j,(hb.cell (p:=(Q b _ Y)) (Nat.lt_of_lt_of_le g f)).trans s1,r1.aa hb f⟩⟩
def RowDeed (w:G)(b off n:Nat)(f:Nat->af):Prop:=b<J (U w)/\∀i,i<n->AtDeed w b off i (f i)
theorem RowDeed.aa{f:Nat->af}(h:RowDeed w b off n f)(hb:Below B w g)(j:J (U w)<=B):RowDeed g b off n f :=
 ⟨Nat.lt_of_lt_of_le h.1 hb.size,λi hi=>(h.2 i hi).aa hb j h.1⟩
def SlDeed (w:G)(a:Option Addr)(n:Nat)(f:Nat->af):Prop:=n=0∨∃b off,a=T (Q b off Y)/\RowDeed w b off n f
theorem SlDeed.aa{f:Nat->af}(h:SlDeed w a n f)(hb:Below B w g)(i:J (U w)<=B):SlDeed g a n f:=by
 rcases h with h|⟨b,off,j,l⟩
 {exact .inl h};{exact .inr ⟨b,off,j,l.aa hb i⟩}
theorem fA:(Pg.info? 44).map (λi=>(i.zero,i.size,i.bytes))=T (T (.agg #[.string ⟨#[]⟩,.int I 0,.int I 0,.string ⟨#[]⟩,Z Y 0 0,Z Y 0 0]),6,96):=by kernel_rfl
def dB (n:Nat):Array ZD:=madeCells (Value.agg #[.string ⟨#[]⟩,.int I 0,.int I 0,.string ⟨#[]⟩,Z Y 0 0,Z Y 0 0]).cells (n*6)
theorem FP (n:Nat)(hn:n<=1048576)(w:G):(Instr.makeSlice 23 (.int I (n:Int)) (.int I (n:Int))).run Pg w=.ok (Z (T (Q (J (U w)) 0 Y)) n n) (w.alloc (N (dB n) 44)):=by obtain⟨i,hi,hz⟩:=Option.map_eq_some_iff.1 fA;simp only[Prod.mk.injEq] at hz;obtain⟨h1,h2,b⟩:=hz;have h:=run_make (P:=Pg) w 23 44 i _ underlying23 hi h1 I I n n (by omega) (Int.le_refl _) (by rw[b];omega) (by omega);rw[h2] at h;simpa[dB] using h
def dD (f:Nat->af)(p:Nat)(l:Link):Bool :=
 av l.e && (if l.ask=ZF then !l.has && decide (0<=l.L) && decide (l.L<(p:Int)) && ((f l.L.toNat).e.toList == l.e.toList) else decide (l.L=0))
def bE (f:Nat->af)(p:Nat)(x:af):Nat->Bool
 |0=>ZF
 |k+1=>bE f p x k && dD f p (x.m k)
def aP (x:af):Bool:=decide (x.E=0) && decide (x.l=0) && decide (x.f=0)
def bT (f:Nat->af)(p:Nat)(x:af):Bool:=decide (0<=x.E) && decide (x.E<=5) && valid x.u x.l && decide (x.f<=200) && bE f p x x.f
def kindOk (f:Nat->af)(p:Nat)(x:af):Bool :=
 if x.H=1 then aP x else if x.H=2 then aP x && decide (x.B.size=0) else if x.H=3 then bT f p x else ZB
def ba (f:Nat->af)(p:Nat):Bool:=av (f p).e && decide ((f p).B.size<=2000) && kindOk f p (f p)
def aN (f:Nat->af)(p:Nat):Nat->Bool
 |0=>ZF
 |k+1=>aN f p k && !((f k).e.toList == (f p).e.toList)
def aE (g:Nat->Bool):Nat->Int
 |0=>-1
 |k+1=>if aE g k=-1 then (if g k=ZF then -1 else k) else aE g k
theorem dn{g:Nat->Bool}(h:∀i,i<n->g i=ZF):aE g n=-1:=by
 induction n with
 |zero=>rfl
 |succ k b =>rw[aE,if_pos (b λi hi=>h i (by omega)),if_pos (h k (by omega))]
theorem dX{g:Nat->Bool}(hi:i<n)(b:g i=ZB)(h:∀j,j<i->g j=ZF):aE g n=i:=by
 induction n with
 |zero=>omega
 |succ k f =>
  rw[aE];by_cases e:i=k;{subst e;rw[if_pos (dn h),if_neg (by rw[b];simp)]};{have:=f (by omega);rw[this,if_neg (by omega)]}
theorem dY{g:Nat->Bool}(h:aE g n=-1):∀i,i<n->g i=ZF:=by
 induction n with
 |zero=>intro i hi;omega
 |succ k b =>
  rw[aE] at h;split at h
  ·rename_i h1;intro i hi;by_cases e:i=k
   ·subst e;cases hg:g i with
    |true=>rfl
    |false=>rw[hg] at h;simp at h
   {exact b h1 i (by omega)}
  {rename_i h1;exact absurd h h1}
theorem kK{f:Nat->af}{x:af}(h:bE f p x n=ZF):∀i,i<n->dD f p (x.m i)=ZF:=by
 induction n with
 |zero=>intro i hi;omega
 |succ k b =>
  simp only[bE,Bool.and_eq_true] at h;intro i hi;by_cases e:i=k;{subst e;exact h.2};{exact b h.1 i (by omega)}
def lks (go:Nat->Nat->(Nat->Bool)->(Nat->Bool) × List (Nat × Nat))(x:af)(d:Nat)(s:Nat->Bool):Nat->(Nat->Bool) × List (Nat × Nat)
 |0=>(s,[])
 |j+1=>if (x.m j).ask=ZF/\(lks go x d s j).1 (x.m j).L.toNat=ZB then ((go (x.m j).L.toNat (d+1) (lks go x d s j).1).1,(lks go x d s j).2++(go (x.m j).L.toNat (d+1) (lks go x d s j).1).2) else lks go x d s j
def put (s:Nat->Bool)(p:Nat):Nat->Bool:=λq=>q == p || s q
def lst (f:Nat->af):Nat->Nat->Nat->(Nat->Bool)->(Nat->Bool) × List (Nat × Nat)
 |0,_,_,s=>(s,[])
 |k+1,p,d,s=>(put (lks (lst f k) (f p) d s (f p).f).1 p,(lks (lst f k) (f p) d s (f p).f).2++[(p,d)])
def cG (f:Nat->af)(n:Nat):Prop:=∀p,p<n->∀i,i<(f p).f->((f p).m i).ask=ZF->((f p).m i).L.toNat<p/\0<=((f p).m i).L
def cnt (s:Nat->Bool):Nat->Nat
 |0=>0
 |k+1=>cnt s k+(if s k=ZF then 1 else 0)
theorem ze (s:Nat->Bool)(n:Nat):cnt s n<=n:=by
 induction n with
 |zero=>simp[cnt]
 |succ k ih=>rw[cnt];split<;>omega
theorem zi{s b:Nat->Bool}(h:∀q,q<n->s q=b q):cnt s n=cnt b n:=by
 induction n with
 |zero=>rfl
 |succ k f=>rw[cnt,cnt,f λq hq=>h q (by omega),h k (by omega)]
theorem Em{s:Nat->Bool}(hp:p<n)(h:s p=ZB):cnt (put s p) n=cnt s n+1:=by
 induction n with
 |zero=>omega
 |succ k b =>
  rw[cnt,cnt];by_cases e:p=k
  ·subst e;have h1:cnt (put s p) p=cnt s p:=zi λq hq=>by simp[put];omega
   simp[h1,put,h]
  ·have h1:put s p k=s k:=by simp[put];omega
   rw[b (by omega),h1];omega
structure Lsd (n p d:Nat)(s:Nat->Bool)(r:(Nat->Bool) × List (Nat × Nat)):Prop where
 far:∀q,p<q->r.1 q=s q
 old:∀q,s q=ZF->r.1 q=ZF
 num:cnt r.1 n=cnt s n+r.2.length
 last:∃o,r.2=o++[(p,d)]
 le:∀x∈r.2,x.1<=p
theorem pW {f:Nat->af}{n k p d:Nat}{s:Nat->Bool}(r:cG f n)(t:p<n)(go:∀q d s,q<p->s q=ZB->Lsd n q d s (lst f k q d s)):∀j,j<=(f p).f->(∀q,p<=q->(lks (lst f k) (f p) d s j).1 q=s q)/\(∀q,s q=ZF->(lks (lst f k) (f p) d s j).1 q=ZF)/\cnt (lks (lst f k) (f p) d s j).1 n=cnt s n+(lks (lst f k) (f p) d s j).2.length/\∀x∈(lks (lst f k) (f p) d s j).2,x.1<p
 |0,_=>⟨λ_ _=>rfl,λ_ h=>h,by simp[lks],by simp[lks]⟩
 |j+1,hj=>by
  obtain⟨h1,h2,m,o⟩:=pW (d:=d) (s:=s) r t go j (by omega);rw[lks];split
  ·rename_i l
   have u:=(r p t j (by omega) l.1).1;have g:=go _ (d+1) _ u l.2;refine⟨λq i=>(g.far q (by omega)).trans (h1 q i),λq i=>g.old q (h2 q i),?_,λx b=>?_⟩
   ·show cnt (lst f k _ (d+1) _).1 n=_
    rw[g.num,m,List.length_append];omega
   ·rcases List.mem_append.1 b with b|b
    ·exact o x b
    ·have:=g.le x b
     omega
  ·exact⟨h1,h2,m,o⟩
theorem fG {f:Nat->af}{n:Nat}(j:cG f n):∀k p d s,p<k->p<n->s p=ZB->Lsd n p d s (lst f k p d s)
 |0,_,_,_,h,_,_=>absurd h (Nat.not_lt_zero _)
 |k+1,p,d,s,hk,hn,g=>by
  obtain⟨h1,h2,m,l⟩:=pW (d:=d) (s:=s) j hn (λq d s i g=>fG j k q d s (by omega) (by omega) g) (f p).f (Nat.le_refl _);have o:=(h1 p (Nat.le_refl _)).trans g;refine⟨λq i=>?_,λq i=>?_,?_,⟨_,rfl⟩,λx b=>?_⟩
  ·show put _ p q=s q
   rw[put,h1 q (by omega)];simp;omega
  ·show put _ p q=ZF
   rw[put,h2 q i];simp
  ·show cnt (put _ p) n=_
   rw[Em hn o,m];simp[lst,List.length_append];omega
  ·rcases List.mem_append.1 b with b|b
   ·exact Nat.le_of_lt (l x b)
   ·simp at b
    subst b;exact Nat.le_refl _
theorem ws {f:Nat->af}{n:Nat}(i:cG f n):∀k p d s q,p<n->p<q->lst f k p d (put s q)=(put (lst f k p d s).1 q,(lst f k p d s).2)
 |0,_,_,_,_,_,_=>rfl
 |k+1,p,d,s,q,hn,hq=>by
  have g:∀j,j<=(f p).f->lks (lst f k) (f p) d (put s q) j=(put (lks (lst f k) (f p) d s j).1 q,(lks (lst f k) (f p) d s j).2):=by
   intro j;induction j with
   |zero=>intro _;rfl
   |succ j l =>
    intro hj;have e:=l (by omega);rw[lks,lks,e];by_cases b:((f p).m j).ask=ZF
    ·have ha:=(i p hn j (by omega) b).1
     have m:put (lks (lst f k) (f p) d s j).1 q ((f p).m j).L.toNat=(lks (lst f k) (f p) d s j).1 ((f p).m j).L.toNat:=by simp[put];omega
     simp only[m,b,true_and];split
     ·rw[ws i k _ (d+1) _ q (by omega) (by omega)]
     ·rfl
    ·rw[if_neg (λh=>b h.1),if_neg (λh=>b h.1)]
  have e:=g (f p).f (Nat.le_refl _);rw[lst,lst,e];simp only[Prod.mk.injEq,and_true];funext x;simp only[put];cases h1:x == p<;>cases h2:x == q<;>simp
def bu:Nat->List (Nat × Nat)->Int
 |_,[]=>-1
 |i,x::xs=>if x.1=i then bu (i+1) xs else i
def aR (f:Nat->af):List (Nat × Nat)->Int
 |[]=>-1
 |x::xs=>if (f x.1).H=3/\60<=x.2 then x.1 else aR f xs
def aw (f:Nat->af)(n:Nat):List (Nat × Nat):=(lst f n (n - 1) 0 (λ_=>ZB)).2
def dl (f:Nat->af)(n:Nat):Int × Int :=
 if n=0∨400<n then (1,0) else
 if aE (ba f) n≠-1 then (2,aE (ba f) n) else
 if aE (λp=>aN f p p) n≠-1 then (3,aE (λp=>aN f p p) n) else
 if bu 0 (aw f n)≠-1 then (4,bu 0 (aw f n)) else
 if aR f (aw f n)≠-1 then (5,aR f (aw f n)) else (0,0)
theorem dI{f:Nat->af}(h:aE (ba f) n=-1):cG f n:=by
 intro p j i hi b;have h1:=dY h p j;simp only[ba,Bool.and_eq_true,kindOk] at h1;obtain⟨_,h2⟩:=h1;split at h2;{simp[aP] at h2;omega};{split at h2;{simp[aP] at h2;omega};{split at h2;{simp only[bT,Bool.and_eq_true] at h2;have g:=kK h2.2 i hi;simp only[dD,b,if_true,Bool.and_eq_true,decide_eq_true_eq] at g;omega};{cases h2}}}
theorem zj (x:af)(a0:Option Addr)(f:Nat)(a1:Option Addr)(b:Nat)(w:G):Calls Pg 150 #[.agg #[.string x.e,.int I x.H,.int I x.E,.string x.B,Z a0 x.l f,Z a1 x.f b]] w λe l=>e=ZG (.agg #[.bool (decide (¬ x.H=2)),.int I x.E,.string x.B])/\Below (J (U w)) w l:=by
 have i:=ae ((Below.refl (J (U w)) w).alloc (Nat.le_refl _) (N #[.string x.e,.int I x.H,.int I x.E,.string x.B,Z a0 x.l f,Z a1 x.f b] 44));obtain⟨r,h⟩:∃r,r=decide (¬ x.H=2):=⟨_,rfl⟩
 rw[<-h];have j:=ae h;clear h;go_enter func150,ntmps150;by_cases g:x.H=2
 ·obtain rfl:r=ZB:=by rw[j.out];simp[g]
  go_wp2
  exact bodyPost_ret (v:=.agg #[.bool ZB,.int I x.E,.string x.B]) (by simp[results,results150,go_sem]) rfl ⟨rfl,by
   repeat (first|exact i|exact Below.refl _ _|refine Below.alloc ?_ (by simp<;>omega) _)⟩
 ·obtain rfl:r=ZF:=by rw[j.out];simp[g]
  go_wp2
  exact bodyPost_ret (v:=.agg #[.bool ZF,.int I x.E,.string x.B]) (by simp[results,results150,go_sem,g]) rfl ⟨rfl,by
   repeat (first|exact i|exact Below.refl _ _|refine Below.alloc ?_ (by simp<;>omega) _)⟩
def jQ (x y:Ins):Bool:=x.op == y.op && x.s.toList == y.s.toList && x.n == y.n
def cX (f g:Nat->Ins):Nat->Bool
 |0=>ZF
 |k+1=>cX f g k && jQ (f k) (g k)
def cK (f g:Nat->Ins)(n m:Nat):Bool:=decide (n=m) && cX f g n
theorem oY{f g:Nat->Ins}{k:Nat}(h:k<=n)(hn:cX f g n=ZF):cX f g k=ZF:=by
 induction n with
 |zero =>
  obtain rfl:k=0:=by omega
  exact hn
 |succ m b =>
  by_cases e:k=m+1;{subst e;exact hn};{simp only[cX,Bool.and_eq_true] at hn;exact b (by omega) hn.1}
theorem jR{f g:Nat->Ins}{k:Nat}(h:k<n)(b:jQ (f k) (g k)=ZB):cX f g n=ZB:=by
 cases e:cX f g n with
 |false=>rfl
 |true =>have h2:=oY (show k+1<=n by omega) e;simp[cX,b] at h2
theorem uY (s:ByteArray)(w:G):Calls Pg 123 #[.string s] w λe m=>e=ZG (.bool (av s))/\m=w:=by
 by_cases h1:1<=(s.size:Int)
 ·by_cases h2:(s.size:Int)<=60
  ·have h:Hid (av s=dO s s.size):=by
    show av s=dO s s.size;unfold av;rw[show decide (1<=s.size/\s.size<=60)=ZF by simp;omega,Bool.true_and]
   go_enter func123,ntmps123;go_wp2;go_loopw [14] (λi wr=>∃k:Nat,k<=s.size/\i=.int I k/\dO s k=ZF/\wr=w) (λi _=>s.size - (intOf i).toNat);case atStart=>exact⟨0,by omega,rfl,rfl,rfl⟩
   case round =>
    obtain⟨k,hk,rfl,g,j⟩:=hrel;have f:=ae j;have l:=ae g;clear j g;by_cases b:k<s.size
    ·by_cases p1:33<=(s[k].toNat:Int)
     {by_cases p2:(s[k].toNat:Int)<=126;{go_wp2;exact⟨⟨k+1,by omega,by go_num,by rw[jP b,l.out];simp;omega,f⟩,by simp[intOf];omega⟩};{go_wp2;go_ret;exact⟨be (by rw[h.out,gI b (by omega)]),f⟩}};{go_wp2;go_ret;exact⟨be (by rw[h.out,gI b (by omega)]),f⟩}
    ·have e:k=s.size:=by omega
     subst e;go_wp2;go_ret;exact⟨be (by rw[h.out,l.out]),f.out⟩
  {have e:av s=ZB:=(by unfold av;rw[show decide (1<=s.size/\s.size<=60)=ZB by simp;omega,Bool.false_and]);rw[e];clear e;go_enter func123,ntmps123;go_wp2;go_ret;exact⟨rfl,rfl⟩}
 {have e:av s=ZB:=(by unfold av;rw[show decide (1<=s.size/\s.size<=60)=ZB by simp;omega,Bool.false_and]);rw[e];clear e;go_enter func123,ntmps123;go_wp2;go_ret;exact⟨rfl,rfl⟩}
def SBx (V:G)(b:Nat)(g f:ZD):Prop:=V.heap[b]?=T (N #[g,f] 33 (0,0))
theorem SBx.c0{g:ZD}(h:SBx V b f g):ZT V (Q b 0 Y)=T f:=by have i:V.heap[b]?=T (N #[f,g] 33 (0,0)):=h;simp[World.cell?,i]
theorem SBx.c1{g:ZD}(h:SBx V b g f):ZT V (Q b 1 Y)=T f:=by have i:V.heap[b]?=T (N #[g,f] 33 (0,0)):=h;simp[World.cell?,i]
theorem SBx.aa{g:ZD}(h:SBx V b f g)(hb:Below B V ZL)(i:J (U V)<=B):SBx ZL b f g :=
 (hb.block b (Nat.lt_of_lt_of_le (ag h) i)).trans h
def AB (V:G)(b:Nat)(v:ZD):Prop:=V.heap[b]?=T (N #[v] 25 (0,0))
theorem AB.c0{v:ZD}(h:AB V b v):ZT V (Q b 0 Y)=T v:=by have f:V.heap[b]?=T (N #[v] 25 (0,0)):=h;simp[World.cell?,f]
def RB (V:G)(b:Nat)(k:Int)(t:ByteArray)(v:ZD):Prop:=V.heap[b]?=T (N #[.int I k,.string t,v] 47 (0,0))
theorem RB.c{k:Int}{t:ByteArray}{v:ZD}(h:RB V b k t v):ZT V (Q b 0 Y)=T (.int I k)/\ZT V (Q b 1 Y)=T (.string t)/\ZT V (Q b 2 Y)=T v:=by have f:V.heap[b]?=T (N #[.int I k,.string t,v] 47 (0,0)):=h;refine⟨?_,?_,?_⟩<;>simp[World.cell?,f]
theorem AB.aa{v:ZD}(h:AB V b v)(hb:Below B V ZL)(f:J (U V)<=B):AB ZL b v :=
 (hb.block b (Nat.lt_of_lt_of_le (ag h) f)).trans h
structure AuBox (W:G)(b:Nat)(v s0 s1:ZD):Prop where
 lt:b+1<J (U W)
 c0:ZT W (Q b 0 Y)=T v
 c1:ZT W (Q (b+1) 0 Y)=T s0
 c2:ZT W (Q (b+1) 1 Y)=T s1
theorem AuBox.aa{v s0 s1:ZD}(h:AuBox W b v s0 s1)(hb:Below B W g)(f:b+1<B):AuBox g b v s0 s1 :=
 ⟨Nat.lt_of_lt_of_le h.lt hb.size,(hb.cell (p:=(Q b 0 Y)) (by show b<B;omega)).trans h.c0,(hb.cell (p:=(Q (b+1) 0 Y)) f).trans h.c1,(hb.cell (p:=(Q (b+1) 1 Y)) f).trans h.c2⟩
theorem zk (w:G)(v s0 s1:ZD)(t u:ZI):AuBox ((w.alloc (N #[v] t)).alloc (N #[s0,s1] u)) (J (U w)) v s0 s1 :=
 ⟨by simp,by simp[go_sem],by simp[go_sem],by simp[go_sem]⟩
