import Derived.Test.YtfnbojfnelfnkaaGreatDoorZMaLaw
import Derived.Test.YtfnbojfnelfnkaaGreatDoorZMaFacts
import Derived.Test.YtfnbojfnelfnkaaGreatDoorZCsOpen
import Derived.Test.YtfnbojfnelfnkaaGreatDoorTie
import Derived.Deep.DeepHandedRow
import Derived.Lib.SmallJoins
import Derived.Lib.LaidTab
set_option maxRecDepth 100000
namespace Go.Proofs.YtfnbojfnelfnkaaGreatDoor.Mac
open Go.ChangeShapes Go.WideShapes Go.ChangeAt Go.RowKit Go.Deep Go.Proofs.YtfnbojfnelfnkaaGreatDoor.Vp
abbrev rowsName:String:=Rows.fnExactMakeSpec.vars.headD default
theorem gRows:Tryz.prog.globalNamed rowsName=some 0:=by kernel_rfl
theorem tRows:(Tryz.prog.globals[0]?).map (·.type)=some 202:=by kernel_rfl
theorem tPow:(Tryz.prog.globals[2]?).map (·.type)=some 275:=by kernel_rfl
theorem cellsPow:Tryz.prog.cellsOf 275=20:=by kernel_rfl
theorem cellsU64:Tryz.prog.cellsOf 264=1:=by kernel_rfl
theorem rowsAt:∀ k:Nat,k<16→∃ (s:DataW Unit) (L:List (DataW Unit)),Rows.laid_loop_example_kilndeed_impl_rows=.agg L∧L[k]?=some (.agg [s,.lit (.int .i64 (mostText k)),.lit (.int .i64 (mostN k)),.lit (.int .i64 (takesOf k)),.lit (.int .i64 (putsOf k))]):=by
 intro k hk
 rcases (show k=0∨k=1∨k=2∨k=3∨k=4∨k=5∨k=6∨k=7∨k=8∨k=9∨k=10∨k=11∨k=12∨k=13∨k=14∨k=15 by omega) with rfl | rfl | rfl | rfl | rfl | rfl | rfl | rfl | rfl | rfl | rfl | rfl | rfl | rfl | rfl | rfl
 all_goals exact ⟨_,_,rfl,rfl⟩
theorem at_of_slice {cs:List Value}{o j:Nat}{v:Value}(hj:j<5)(h:(((cs.drop o).take 5).drop j).take 1=[v]):cs[o+j]?=some v:=by
 have h2:((((cs.drop o).take 5).drop j).take 1)[0]?=some v:=by rw [h];rfl
 simpa [List.getElem?_take,hj] using h2
theorem rows_of {W:World}{enc:TypeId × Value→Unit}{sp:Nat→Bool}{held:Bool}{fuel:Nat}{cs0:Array Value}{p:List MemPlace}(hv0:W.var? Tryz.prog rowsName=some cs0)
  (hd0:DataW.trod enc Tryz.prog W 0 sp held fuel 202 cs0.toList=some (Rows.laid_loop_example_kilndeed_impl_rows,p)):Tab W∧Tab2 W:=by
 obtain ⟨xs,m,_,hx,_,hn,hel⟩:=DataW.trod_array Tryz.underlying202 hd0
 rw [cells57] at hel
 have key:∀ k,k<16→cs0.toList[k*5+1]?=some (.int .i64 (mostText k))∧cs0.toList[k*5+2]?=some (.int .i64 (mostN k))∧cs0.toList[k*5+3]?=some (.int .i64 (takesOf k))∧cs0.toList[k*5+4]?=some (.int .i64 (putsOf k)):=by
  intro k hk
  obtain ⟨s,L,hL,hLk⟩:=rowsAt k hk
  rw [hL] at hx
  simp only [Prod.mk.injEq,DataW.agg.injEq] at hx
  have hk2:=hel k hk
  rw [hx.1,List.getElem?_map] at hLk
  obtain ⟨y,hy,hy1⟩:=Option.map_eq_some_iff.1 hLk
  rw [hy] at hk2
  obtain ⟨ys,n,_,hys,_,_,hf⟩:=DataW.trod_struct Tryz.underlying201 hk2
  have hz:ys.map (·.1)=[s,.lit (.int .i64 (mostText k)),.lit (.int .i64 (mostN k)),.lit (.int .i64 (takesOf k)),.lit (.int .i64 (putsOf k))]:=by
   rw [hys] at hy1
   simpa using hy1
  have h1:DataW.trod _ Tryz.prog W 0 _ _ n 3 ((((cs0.toList.drop (k*5)).take 5).drop 1).take (Tryz.prog.cellsOf 3))=ys[1]?:=hf 1 _ rfl
  have h2:DataW.trod _ Tryz.prog W 0 _ _ n 3 ((((cs0.toList.drop (k*5)).take 5).drop 2).take (Tryz.prog.cellsOf 3))=ys[2]?:=hf 2 _ rfl
  have h3:DataW.trod _ Tryz.prog W 0 _ _ n 3 ((((cs0.toList.drop (k*5)).take 5).drop 3).take (Tryz.prog.cellsOf 3))=ys[3]?:=hf 3 _ rfl
  have h4:DataW.trod _ Tryz.prog W 0 _ _ n 3 ((((cs0.toList.drop (k*5)).take 5).drop 4).take (Tryz.prog.cellsOf 3))=ys[4]?:=hf 4 _ rfl
  rw [cells3] at h1 h2 h3 h4
  match ys,hz with
  | [y0,y1,y2,y3,y4],hz =>
   simp only [List.map_cons,List.map_nil,List.cons.injEq,and_true] at hz
   obtain ⟨z1,e1,x1,_⟩:=DataW.trod_int Tryz.underlying3 (show DataW.trod _ Tryz.prog W 0 _ _ n 3 _=some y1 from h1)
   obtain ⟨z2,e2,x2,_⟩:=DataW.trod_int Tryz.underlying3 (show DataW.trod _ Tryz.prog W 0 _ _ n 3 _=some y2 from h2)
   obtain ⟨z3,e3,x3,_⟩:=DataW.trod_int Tryz.underlying3 (show DataW.trod _ Tryz.prog W 0 _ _ n 3 _=some y3 from h3)
   obtain ⟨z4,e4,x4,_⟩:=DataW.trod_int Tryz.underlying3 (show DataW.trod _ Tryz.prog W 0 _ _ n 3 _=some y4 from h4)
   have w1:z1=mostText k:=by have:=hz.2.1;rw [x1] at this;simpa using this
   have w2:z2=mostN k:=by have:=hz.2.2.1;rw [x2] at this;simpa using this
   have w3:z3=takesOf k:=by have:=hz.2.2.2.1;rw [x3] at this;simpa using this
   have w4:z4=putsOf k:=by have:=hz.2.2.2.2;rw [x4] at this;simpa using this
   rw [w1] at e1
   rw [w2] at e2
   rw [w3] at e3
   rw [w4] at e4
   exact ⟨at_of_slice (by omega) e1,at_of_slice (by omega) e2,at_of_slice (by omega) e3,at_of_slice (by omega) e4⟩
 have hlt:0<W.heap.size:=by
  have hc:=World.var?_cell gRows hv0 1
  have:=(key 0 (by omega)).1
  simp only [Nat.zero_mul,Nat.zero_add,Array.getElem?_toList] at this
  rw [this] at hc
  rcases Nat.lt_or_ge 0 W.heap.size with h' | h'
  ·exact h'
  ·simp [World.cell?,Array.getElem?_eq_none h'] at hc
 refine ⟨⟨hlt,fun k hk=>?_⟩,⟨hlt,fun k hk=>?_⟩⟩
 ·have c1:=World.var?_cell gRows hv0 (k*5+1)
  have c2:=World.var?_cell gRows hv0 (k*5+2)
  have hk2:=key k hk
  simp only [Array.getElem?_toList] at hk2
  exact ⟨c1.trans hk2.1,c2.trans hk2.2.1⟩
 ·have c3:=World.var?_cell gRows hv0 (k*5+3)
  have c4:=World.var?_cell gRows hv0 (k*5+4)
  have hk2:=key k hk
  simp only [Array.getElem?_toList] at hk2
  exact ⟨c3.trans hk2.2.2.1,c4.trans hk2.2.2.2⟩
theorem pow_of {W:World}{enc:TypeId × Value→Unit}{sp:Nat→Bool}{held:Bool}{fuel:Nat}{cs:Array Value}{p:List MemPlace}(hv:W.var? Tryz.prog "internal/strconv.uint64pow10"=some cs)
  (hd:DataW.trod enc Tryz.prog W 0 sp held fuel 275 cs.toList=some (Rows.laid_internal_strconv_uint64pow10,p)):Pow W:=by
 have e:=Lib.cells_of_tab (k:=.u64) (zs:=Lib.pow10Tab) Tryz.underlying275 Tryz.underlying264 cellsU64 cellsPow hd
 show W.var? Tryz.prog _=some _
 rw [hv,← e]
theorem tables {W:World}(h:laidMetH Tryz.prog Rows.fnExactMakeRow.laid W):Tab W∧Tab2 W∧Pow W:=by
 rw [MakeChecks.laidMetH_plain _ _ _ (by kernel_rfl)] at h
 obtain ⟨ps,⟨g0,t0,cs0,f0,p0,q0,hg0,ht0,hv0,hd0,⟨g1,t1,cs1,f1,p1,q1,hg1,ht1,hv1,hd1,⟨g2,t2,cs2,f2,p2,q2,hg2,ht2,hv2,hd2,⟨g3,t3,cs3,f3,p3,q3,hg3,ht3,hv3,hd3,⟨g4,t4,cs4,f4,p4,q4,hg4,ht4,hv4,hd4,_,_⟩,_⟩,_⟩,_⟩,_⟩,_,_⟩:=h
 obtain rfl:=Option.some.inj (gPow.symm.trans hg2)
 obtain rfl:=Option.some.inj (tPow.symm.trans ht2)
 obtain rfl:=Option.some.inj (gRows.symm.trans hg4)
 obtain rfl:=Option.some.inj (tRows.symm.trans ht4)
 exact ⟨(rows_of hv4 hd4).1,(rows_of hv4 hd4).2,pow_of hv2 hd2⟩
theorem own:ownKnob Tryz.prog.godebug=none:=by kernel_rfl
theorem laidOut:laidOutB Tryz.prog=true:=by kernel_rfl
theorem open_text {H:Type}{enc:TypeId × Value→H}{W:World}{base:Nat}{v:Value}{d:DataW H}{p:List MemPlace}(hv:Value.okWide Tryz.prog W .any base 9 v)
  (h:DataW.Trod enc Tryz.prog W 0 (fun _=>true) true 9 v d p):∃ s:ByteArray,v=.string s∧s.size≤maxLen:=by
 obtain ⟨s,rfl⟩:=okWide_string Tryz.underlying9 hv
 obtain ⟨fuel,hf⟩:=h
 obtain ⟨s',e,_,hs⟩:=DataW.trod_string Tryz.underlying9 hf
 simp [Value.cells] at e
 exact ⟨s,rfl,by rw [e];exact hs⟩
theorem contract (H:Type)(enc:TypeId × Value→H)(W:World)(base:Nat)(args:Array Value)(ds gs:List (DataW H))(before:List MemPlace)
  (hval:∀ (j:Nat) t v,Tryz.f4.params[j]?=some t→args[j]?=some v→Value.okWide Tryz.prog W .any base t v)
  (hW:DataW.Whole enc Tryz.prog Tryz.f4.params.toList Rows.fnExactMakeSpec.vars false W args.toList ds gs before) (hL:laidMetH Tryz.prog Rows.fnExactMakeRow.laid W) :
  Calls Tryz.prog 4 args W fun e W'=>∃ v,e=.returned v∧Rows.fnExactMakeSpec.post enc Tryz.prog Tryz.f4 false true false false W args v W':=by
 have hW':=hW
 obtain ⟨p,q,hA0,hV,rfl,hfz,hnd⟩:=hW
 have hA:DataW.TrodAll enc Tryz.prog W 0 (fun _=>true) true Tryz.f4.params.toList args.toList ds p:=hA0
 rw [Tryz.params4] at hA hval
 obtain ⟨v0,vs0,d0,ds0,p0,q0,hargs,rfl,rfl,h0,r0⟩:=trodAll_cons hA
 obtain ⟨v1,vs1,d1,ds1,p1,q1,rfl,rfl,rfl,h1,r1⟩:=trodAll_cons r0
 obtain ⟨rfl,rfl,rfl⟩:=trodAll_nil r1
 obtain rfl:args=#[v0,v1]:=by cases args;simp_all
 obtain ⟨g,t,cs,fuel,dg,pg,rfl,hg,ht,hv,hd,rfl⟩:=trodVars_one hV
 have hlt:=hW'.lt
 obtain ⟨a0,n0,c0,f0,a1,n1,c1,f1,rfl,hn0,hn1,hS0,hs0,hS1,hs1⟩:=open_space (hval 0 25 v0 rfl rfl) h0
 obtain ⟨tx,rfl,htx⟩:=open_text (hval 1 9 v1 rfl rfl) h1
 obtain ⟨T1,T2,T3⟩:=tables hL
 refine (law_make a0 n0 c0 f0 a1 n1 c1 f1 tx W hn0 hn1 hS0 hs0 hS1 hs1 htx T1 T2 T3).mono fun e W' ⟨he,hB⟩=>?_
 subst he
 refine ⟨_,rfl,_,_,_,[],p0++(p1++[]),MemPlace.row ⟨g,0,none⟩ cs.size++pg,hW',?_,?_,?_,hB.frame _,fun h=>by cases h⟩
 ·exact trodAll_cons_mk (shut_bool Tryz.underlying4 _) trodAll_mk0
 ·exact trodAll_cons_mk (Below.trod laidOut (by kernel_rfl) (of_decide_eq_true (by kernel_rfl)) h0 hB (fun x hx=>hlt x (by simp [hx]))) (trodAll_cons_mk (Below.trod laidOut (by kernel_rfl) (of_decide_eq_true (by kernel_rfl)) h1 hB (fun x hx=>hlt x (by simp [hx]))) trodAll_mk0)
 ·have e:t=202:=by rw [Option.some.inj (hg.symm.trans gRows)] at ht;exact Option.some.inj (ht.symm.trans tRows)
  subst e
  have hp:∀ x∈pg,x.block<W.heap.size:=fun x hx=>hlt x (by simp [hx])
  exact trodVars_mk1 hg ht (Joins.var_stays hg hv hB lr)
   (DataW.trod_stays (kids_book laidOut (by kernel_rfl)) (book_sized (by kernel_rfl)) (fun h=>by cases h) ⟨of_decide_eq_true (by kernel_rfl),book_self 202⟩ hd (fun x hx=>hB.same (hp x hx)) (fun x hx=>by simpa using hp x hx))
def put (cs:Array Value):Obj→Obj
 | .cells _ t frozen=>.cells cs t frozen
 | o=>o
def firstCells:Array Value:=(Go.Pinned.utf8FirstZ.map (fun z:Nat=>Value.int .u8 (z:Int))).toArray
abbrev noArgs:Array Value:=#[.agg #[.slice none 0 0,.slice none 0 0],.string ⟨#[]⟩]
theorem lifted (os:Os)(started:os.Started)(H:Type)(enc:TypeId × Value→H)(F:Stop.Interp) :
  ReturnsInHanded {} Tryz.checked os 4 .any ((OpenSpec.ofChange Rows.fnExactMakeSpec).preRow enc Tryz.prog Tryz.f4 Rows.fnExactMakeRow.domain false Rows.fnExactMakeRow.laid) (((OpenSpec.ofChange Rows.fnExactMakeSpec).at F).post enc Tryz.prog Tryz.f4 false true false false):=by
 refine returnsInHanded_of_row (C:=Tryz.checked) (s:=OpenSpec.ofChange Rows.fnExactMakeSpec) own started (by kernel_rfl) Tryz.func4
  (witness_row_at (enc:=enc) (C:=Tryz.checked) false
   ({ World.holding Tryz.prog os ⟨#[],#[],[]⟩ with heap:=Array.modify (Array.modify (Array.modify (Array.modify (Array.modify (Array.modify (World.holding Tryz.prog os ⟨#[],#[],[]⟩).heap 0 (put #[.string ⟨#[]⟩,.int .i64 0,.int .i64 0,.int .i64 0,.int .i64 0,.string ⟨#[108,105,116]⟩,.int .i64 2000,.int .i64 0,.int .i64 0,.int .i64 1,.string ⟨#[99,97,116]⟩,.int .i64 0,.int .i64 0,.int .i64 2,.int .i64 1,.string ⟨#[99,117,116]⟩,.int .i64 0,.int .i64 2000,.int .i64 1,.int .i64 1,.string ⟨#[114,101,115,116]⟩,.int .i64 0,.int .i64 2000,.int .i64 1,.int .i64 1,.string ⟨#[119,111,114,100]⟩,.int .i64 0,.int .i64 2000,.int .i64 1,.int .i64 1,.string ⟨#[115,97,109,101]⟩,.int .i64 0,.int .i64 0,.int .i64 2,.int .i64 1,.string ⟨#[100,117,112]⟩,.int .i64 0,.int .i64 0,.int .i64 1,.int .i64 2,.string ⟨#[115,119,97,112]⟩,.int .i64 0,.int .i64 0,.int .i64 2,.int .i64 2,.string ⟨#[100,114,111,112]⟩,.int .i64 0,.int .i64 0,.int .i64 1,.int .i64 0,.string ⟨#[106,117,109,112]⟩,.int .i64 0,.int .i64 200,.int .i64 0,.int .i64 0,.string ⟨#[117,110,108,101,115,115]⟩,.int .i64 0,.int .i64 200,.int .i64 1,.int .i64 0,.string ⟨#[97,115,107]⟩,.int .i64 0,.int .i64 0,.int .i64 1,.int .i64 1,.string ⟨#[104,97,115]⟩,.int .i64 0,.int .i64 0,.int .i64 1,.int .i64 1,.string ⟨#[102,97,105,108]⟩,.int .i64 0,.int .i64 0,.int .i64 1,.int .i64 0,.string ⟨#[101,110,100]⟩,.int .i64 0,.int .i64 0,.int .i64 1,.int .i64 0])) 2 (put #[.int .u64 1,.int .u64 10,.int .u64 100,.int .u64 1000,.int .u64 10000,.int .u64 100000,.int .u64 1000000,.int .u64 10000000,.int .u64 100000000,.int .u64 1000000000,.int .u64 10000000000,.int .u64 100000000000,.int .u64 1000000000000,.int .u64 10000000000000,.int .u64 100000000000000,.int .u64 1000000000000000,.int .u64 10000000000000000,.int .u64 100000000000000000,.int .u64 1000000000000000000,.int .u64 10000000000000000000])) 5 (put #[.int .u8 0,.int .u8 1,.int .u8 28,.int .u8 2,.int .u8 29,.int .u8 14,.int .u8 24,.int .u8 3,.int .u8 30,.int .u8 22,.int .u8 20,.int .u8 15,.int .u8 25,.int .u8 17,.int .u8 4,.int .u8 8,.int .u8 31,.int .u8 27,.int .u8 13,.int .u8 23,.int .u8 21,.int .u8 19,.int .u8 16,.int .u8 7,.int .u8 26,.int .u8 12,.int .u8 18,.int .u8 6,.int .u8 11,.int .u8 5,.int .u8 10,.int .u8 9])) 6 (put #[.int .u8 0,.int .u8 1,.int .u8 56,.int .u8 2,.int .u8 57,.int .u8 49,.int .u8 28,.int .u8 3,.int .u8 61,.int .u8 58,.int .u8 42,.int .u8 50,.int .u8 38,.int .u8 29,.int .u8 17,.int .u8 4,.int .u8 62,.int .u8 47,.int .u8 59,.int .u8 36,.int .u8 45,.int .u8 43,.int .u8 51,.int .u8 22,.int .u8 53,.int .u8 39,.int .u8 33,.int .u8 30,.int .u8 24,.int .u8 18,.int .u8 12,.int .u8 5,.int .u8 63,.int .u8 55,.int .u8 48,.int .u8 27,.int .u8 60,.int .u8 41,.int .u8 37,.int .u8 16,.int .u8 46,.int .u8 35,.int .u8 44,.int .u8 21,.int .u8 52,.int .u8 32,.int .u8 23,.int .u8 11,.int .u8 54,.int .u8 26,.int .u8 40,.int .u8 15,.int .u8 34,.int .u8 20,.int .u8 31,.int .u8 10,.int .u8 25,.int .u8 14,.int .u8 19,.int .u8 9,.int .u8 13,.int .u8 8,.int .u8 7,.int .u8 6])) 4 (put #[.int .u8 128,.int .u8 191,.int .u8 160,.int .u8 191,.int .u8 128,.int .u8 159,.int .u8 144,.int .u8 191,.int .u8 128,.int .u8 143,.int .u8 0,.int .u8 0,.int .u8 0,.int .u8 0,.int .u8 0,.int .u8 0,.int .u8 0,.int .u8 0,.int .u8 0,.int .u8 0,.int .u8 0,.int .u8 0,.int .u8 0,.int .u8 0,.int .u8 0,.int .u8 0,.int .u8 0,.int .u8 0,.int .u8 0,.int .u8 0,.int .u8 0,.int .u8 0])) 3 (put firstCells) }:World)
   noArgs rfl (by kernel_rfl) (by kernel_rfl) (by kernel_rfl)
   (OpenSpec.preRow_of_cond 8 (x:=([.agg [.nil,.nil],.lit (.string [])],[Rows.laid_loop_example_kilndeed_impl_rows],MemPlace.row ⟨0,0,none⟩ 80)) (by kernel_rfl) (by kernel_rfl) (fun k hk=>by cases hk) (by kernel_rfl) (laidMet_of_run' 8 (by kernel_rfl) (by kernel_rfl)))) ?_
 intro W base args ds gs before hval hW _ _ _ hL _ _
 exact contract H enc W base args ds gs before hval hW hL
theorem said:Rows.FnExactMakeSaid :=
 OpenClaim.holds_of_cond 4 Tryz.f4 rfl rfl rfl rfl rfl rfl rfl ⟨rfl,rfl,rfl,rfl,rfl⟩ rfl rfl rfl rfl rfl (by kernel_rfl) Tryz.func4 facts
  (of_decide_eq_true (by kernel_rfl)) (by unfold Func.isWrapper;first | (rw [if_pos (by decide +kernel)];kernel_rfl) | (rw [if_neg (by decide +kernel)];exact ⟨rfl,rfl⟩))
  (fun os started H enc _ F=>by rw [OpenClaim.pre_eq_preRow];exact lifted os started H enc F)
theorem plain (f:FuncId)(fn:Func)(hf:Tryz.pinned.checked.prog.funcNamed Rows.fnExactMakeRow.func=some f)(hfn:Tryz.pinned.checked.prog.funcs[f]?=some fn) :
  true=Tryz.pinned.checked.prog.looks []∧∀ (j:Nat) t,fn.params[j]?=some t→Tryz.pinned.checked.prog.wantsStandIn t=false:=by
 obtain rfl:f=4:=Option.some.inj ((show Tryz.prog.funcNamed Rows.fnExactMakeRow.func=some 4 by kernel_rfl).symm.trans hf) |>.symm
 obtain rfl:fn=Tryz.f4:=(Option.some.inj (Tryz.func4.symm.trans hfn)).symm
 refine ⟨by kernel_rfl,fun j t ht=>?_⟩
 rw [Tryz.params4] at ht
 rcases (show t=25∨t=9 by simpa using Array.mem_of_getElem? ht) with rfl | rfl
 ·exact (show Tryz.prog.wantsStandIn 25=false by kernel_rfl)
 ·exact (show Tryz.prog.wantsStandIn 9=false by kernel_rfl)
theorem card:Rows.FnExactMakeCardSaid :=
 Claim7.holds_tied_plain_at .later [] _ _ _ _ said (fun _ h=>by cases h) (by kernel_rfl) (fun _ h=>by cases h) fnExactMake_row_tie rfl ⟨rfl,rfl⟩ (by kernel_rfl) rfl plain (by kernel_rfl)
end Go.Proofs.YtfnbojfnelfnkaaGreatDoor.Mac
namespace Go.Proofs.YtfnbojfnelfnkaaGreatDoor
theorem fnExactMake_card:Rows.FnExactMakeCardSaid:=Mac.card
#print axioms fnExactMake_card
end Go.Proofs.YtfnbojfnelfnkaaGreatDoor
