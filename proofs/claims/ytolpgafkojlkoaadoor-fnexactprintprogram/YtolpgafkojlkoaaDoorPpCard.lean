/-
  The row on PrintProgram and its card.
-/
import Derived.Test.YtolpgafkojlkoaaDoorPpLaw
import Derived.Test.YtolpgafkojlkoaaDoorVpOpen
import Derived.Test.YtolpgafkojlkoaaDoorTie
import Derived.Deep.DeepHandedRow
import Derived.Lib.SmallJoins
import Derived.Lib.LaidTab
namespace Go.Proofs.YtolpgafkojlkoaaDoor.Pp
open Go.ChangeShapes Go.WideShapes Go.ChangeAt Go.RowKit Go.Deep Go.Proofs.YtolpgafkojlkoaaDoor.Vp

theorem own : ownKnob Tryd.prog.godebug = none := by kernel_rfl
theorem laidOut : laidOutB Tryd.prog = true := by kernel_rfl
abbrev rowsName : String := Rows.fnExactPrintProgramSpec.vars.headD default
theorem gRows : Tryd.prog.globalNamed rowsName = some 0 := by kernel_rfl
theorem tRows : (Tryd.prog.globals[0]?).map (·.type) = some 129 := by kernel_rfl
theorem tPow : (Tryd.prog.globals[1]?).map (·.type) = some 148 := by kernel_rfl
theorem cellsPow : Tryd.prog.cellsOf 148 = 20 := by kernel_rfl
theorem cellsU64 : Tryd.prog.cellsOf 142 = 1 := by kernel_rfl

theorem rowsAt : ∀ k : Nat, k < 16 → ∃ (t p : DataW Unit) (L : List (DataW Unit)), Rows.laid_loop_example_kilndeed_impl_rows = .agg L ∧ L[k]? = some (.agg [.lit (.string (word k)), .lit (.int .i64 (mostText k)), .lit (.int .i64 (mostN k)), t, p]) := by
  intro k hk
  rcases (show k = 0 ∨ k = 1 ∨ k = 2 ∨ k = 3 ∨ k = 4 ∨ k = 5 ∨ k = 6 ∨ k = 7 ∨ k = 8 ∨ k = 9 ∨ k = 10 ∨ k = 11 ∨ k = 12 ∨ k = 13 ∨ k = 14 ∨ k = 15 by omega) with rfl | rfl | rfl | rfl | rfl | rfl | rfl | rfl | rfl | rfl | rfl | rfl | rfl | rfl | rfl | rfl
  all_goals exact ⟨_, _, _, rfl, rfl⟩

theorem at_of_slice {cs : List Value} {o j : Nat} {v : Value} (hj : j < 5) (h : (((cs.drop o).take 5).drop j).take 1 = [v]) : cs[o + j]? = some v := by
  have h2 : ((((cs.drop o).take 5).drop j).take 1)[0]? = some v := by rw [h]; rfl
  simpa [List.getElem?_take, hj] using h2

/-- What a reading of the table gives: words and bounds. -/
theorem rows_of {W : World} {enc : TypeId × Value → Unit} {sp : Nat → Bool} {held : Bool} {fuel : Nat} {cs0 : Array Value} {p : List MemPlace} (hv0 : W.var? Tryd.prog rowsName = some cs0)
    (hd0 : DataW.trod enc Tryd.prog W 0 sp held fuel 129 cs0.toList = some (Rows.laid_loop_example_kilndeed_impl_rows, p)) : Tab W ∧ TabW W := by
  obtain ⟨xs, m, _, hx, _, hn, hel⟩ := DataW.trod_array Tryd.underlying129 hd0
  rw [cells57] at hel
  have key : ∀ k : Nat, k < 16 → cs0.toList[k * 5 + 0]? = some (.string ⟨(word k).toArray⟩) ∧ cs0.toList[k * 5 + 1]? = some (.int .i64 (mostText k)) ∧ cs0.toList[k * 5 + 2]? = some (.int .i64 (mostN k)) := by
    intro k hk
    obtain ⟨t, p, L, hL, hLk⟩ := rowsAt k hk
    rw [hL] at hx
    simp only [Prod.mk.injEq, DataW.agg.injEq] at hx
    have hk2 := hel k hk
    rw [hx.1, List.getElem?_map] at hLk
    obtain ⟨y, hy, hy1⟩ := Option.map_eq_some_iff.1 hLk
    rw [hy] at hk2
    obtain ⟨ys, n, _, hys, _, _, hf⟩ := DataW.trod_struct Tryd.underlying128 hk2
    have hz : ys.map (·.1) = [.lit (.string (word k)), .lit (.int .i64 (mostText k)), .lit (.int .i64 (mostN k)), t, p] := by
      rw [hys] at hy1
      simpa using hy1
    have h0 : DataW.trod _ Tryd.prog W 0 _ _ n 9 ((((cs0.toList.drop (k * 5)).take 5).drop 0).take (Tryd.prog.cellsOf 9)) = ys[0]? := hf 0 _ rfl
    have h1 : DataW.trod _ Tryd.prog W 0 _ _ n 3 ((((cs0.toList.drop (k * 5)).take 5).drop 1).take (Tryd.prog.cellsOf 3)) = ys[1]? := hf 1 _ rfl
    have h2 : DataW.trod _ Tryd.prog W 0 _ _ n 3 ((((cs0.toList.drop (k * 5)).take 5).drop 2).take (Tryd.prog.cellsOf 3)) = ys[2]? := hf 2 _ rfl
    rw [cells3] at h1 h2
    rw [cells9] at h0
    match ys, hz with
    | [y0, y1, y2, y3, y4], hz =>
      simp only [List.map_cons, List.map_nil, List.cons.injEq, and_true] at hz
      obtain ⟨s0, e0, x0, _⟩ := DataW.trod_string Tryd.underlying9 (show DataW.trod _ Tryd.prog W 0 _ _ n 9 _ = some y0 from h0)
      obtain ⟨z1, e1, x1, _⟩ := DataW.trod_int Tryd.underlying3 (show DataW.trod _ Tryd.prog W 0 _ _ n 3 _ = some y1 from h1)
      obtain ⟨z2, e2, x2, _⟩ := DataW.trod_int Tryd.underlying3 (show DataW.trod _ Tryd.prog W 0 _ _ n 3 _ = some y2 from h2)
      have w0 : s0 = ⟨(word k).toArray⟩ := by
        have := hz.1
        rw [x0] at this
        simp only [DataW.lit.injEq, Lit.string.injEq] at this
        rw [← this]
      have w1 : z1 = mostText k := by have := hz.2.1; rw [x1] at this; simpa using this
      have w2 : z2 = mostN k := by have := hz.2.2.1; rw [x2] at this; simpa using this
      rw [w0] at e0
      rw [w1] at e1
      rw [w2] at e2
      exact ⟨at_of_slice (by omega) e0, at_of_slice (by omega) e1, at_of_slice (by omega) e2⟩
  refine ⟨⟨?_, fun k hk => ?_⟩, fun k hk => ?_⟩
  · have hc := World.var?_cell gRows hv0 1
    have := (key 0 (by omega)).2.1
    simp only [Nat.zero_mul, Nat.zero_add, Array.getElem?_toList] at this
    rw [this] at hc
    rcases Nat.lt_or_ge 0 W.heap.size with h' | h'
    · exact h'
    · simp [World.cell?, Array.getElem?_eq_none h'] at hc
  · have c1 := World.var?_cell gRows hv0 (k * 5 + 1)
    have c2 := World.var?_cell gRows hv0 (k * 5 + 2)
    have hk2 := key k hk
    simp only [Array.getElem?_toList] at hk2
    exact ⟨c1.trans hk2.2.1, c2.trans hk2.2.2⟩
  · have c0 := World.var?_cell gRows hv0 (k * 5)
    have hk2 := key k hk
    simp only [Array.getElem?_toList, Nat.add_zero] at hk2
    exact c0.trans hk2.1

theorem pow_of {W : World} {enc : TypeId × Value → Unit} {sp : Nat → Bool} {held : Bool} {fuel : Nat} {cs : Array Value} {p : List MemPlace} (hv : W.var? Tryd.prog "internal/strconv.uint64pow10" = some cs)
    (hd : DataW.trod enc Tryd.prog W 0 sp held fuel 148 cs.toList = some (Rows.laid_internal_strconv_uint64pow10, p)) : Pow W := by
  have e := Lib.cells_of_tab (k := .u64) (zs := Lib.pow10Tab) Tryd.underlying148 Tryd.underlying142 cellsU64 cellsPow hd
  show W.var? Tryd.prog _ = some _
  rw [hv, ← e]

/-- WHAT THE ROW's LIST GIVES. -/
theorem tables {W : World} (h : laidMetH Tryd.prog Rows.fnExactPrintProgramRow.laid W) : Tab W ∧ TabW W ∧ Pow W := by
  rw [MakeChecks.laidMetH_plain _ _ _ (by kernel_rfl)] at h
  obtain ⟨ps, ⟨g0, t0, cs0, f0, p0, q0, hg0, ht0, hv0, hd0, ⟨g1, t1, cs1, f1, p1, q1, hg1, ht1, hv1, hd1, ⟨g2, t2, cs2, f2, p2, q2, hg2, ht2, hv2, hd2, ⟨g3, t3, cs3, f3, p3, q3, hg3, ht3, hv3, hd3, _, _⟩, _⟩, _⟩, _⟩, _, _⟩ := h
  obtain rfl := Option.some.inj (gPow.symm.trans hg2)
  obtain rfl := Option.some.inj (tPow.symm.trans ht2)
  obtain rfl := Option.some.inj (gRows.symm.trans hg3)
  obtain rfl := Option.some.inj (tRows.symm.trans ht3)
  exact ⟨(rows_of hv3 hd3).1, (rows_of hv3 hd3).2, pow_of hv2 hd2⟩

set_option maxRecDepth 100000 in
theorem contract (H : Type) (enc : TypeId × Value → H) (W : World) (base : Nat) (args : Array Value) (ds gs : List (DataW H)) (before : List MemPlace)
    (hval : ∀ (j : Nat) t v, Tryd.f7.params[j]? = some t → args[j]? = some v → Value.okWide Tryd.prog W .any base t v)
    (hW : DataW.Whole enc Tryd.prog Tryd.f7.params.toList Rows.fnExactPrintProgramSpec.vars false W args.toList ds gs before) (hL : laidMetH Tryd.prog Rows.fnExactPrintProgramRow.laid W) :
    Calls Tryd.prog 7 args W fun e W' => ∃ v, e = .returned v ∧ Rows.fnExactPrintProgramSpec.post enc Tryd.prog Tryd.f7 false true false false W args v W' := by
  have hW' := hW
  obtain ⟨p, q, hA0, hV, rfl, hfz, hnd⟩ := hW
  have hA : DataW.TrodAll enc Tryd.prog W 0 (fun _ => true) true Tryd.f7.params.toList args.toList ds p := hA0
  rw [Tryd.params7] at hA hval
  obtain ⟨v0, vs0, d0, ds0, p0, q0, hargs, rfl, rfl, h0, r0⟩ := trodAll_cons hA
  obtain ⟨rfl, rfl, rfl⟩ := trodAll_nil r0
  obtain rfl : args = #[v0] := by cases args; simp_all
  obtain ⟨g, t, cs, fuel, dg, pg, rfl, hg, ht, hv, hd, rfl⟩ := trodVars_one hV
  have hlt := hW'.lt
  obtain ⟨a, n, cap, f, rfl, hn, hS, hs⟩ := open_program (hval 0 52 v0 rfl rfl) h0
  obtain ⟨T1, T2, T3⟩ := tables hL
  refine (print_law a n cap f W hn hS hs T1 T2 T3).mono fun e W' ⟨he, hB⟩ => ?_
  subst he
  refine ⟨_, rfl, _, _, _, [], p0 ++ [], MemPlace.row ⟨g, 0, none⟩ cs.size ++ pg, hW', ?_, ?_, ?_, hB.frame _, fun h => by cases h⟩
  · exact trodAll_cons_mk (shut_bool Tryd.underlying4 _) trodAll_mk0
  · exact trodAll_cons_mk (Below.trod laidOut (by kernel_rfl) (of_decide_eq_true (by kernel_rfl)) h0 hB (fun x hx => hlt x (by simp [hx]))) trodAll_mk0
  · have e : t = 129 := by rw [Option.some.inj (hg.symm.trans gRows)] at ht; exact Option.some.inj (ht.symm.trans tRows)
    subst e
    have hp : ∀ x ∈ pg, x.block < W.heap.size := fun x hx => hlt x (by simp [hx])
    exact trodVars_mk1 hg ht (Joins.var_stays hg hv hB (Nat.le_refl _))
      (DataW.trod_stays (kids_book laidOut (by kernel_rfl)) (book_sized (by kernel_rfl)) (fun h => by cases h) ⟨of_decide_eq_true (by kernel_rfl), book_self 129⟩ hd (fun x hx => hB.same (hp x hx)) (fun x hx => by simpa using hp x hx))

def put (cs : Array Value) : Obj → Obj
  | .cells _ t frozen => .cells cs t frozen
  | o => o
abbrev noArgs : Array Value := #[.agg #[.slice none 0 0]]
set_option maxRecDepth 100000 in
theorem lifted (os : Os) (started : os.Started) (H : Type) (enc : TypeId × Value → H) (F : Stop.Interp) :
    ReturnsInHanded {} Tryd.checked os 7 .any ((OpenSpec.ofChange Rows.fnExactPrintProgramSpec).preRow enc Tryd.prog Tryd.f7 Rows.fnExactPrintProgramRow.domain false Rows.fnExactPrintProgramRow.laid) (((OpenSpec.ofChange Rows.fnExactPrintProgramSpec).at F).post enc Tryd.prog Tryd.f7 false true false false) := by
  -- the witness: the settled world, the listed tables holding what their initialisers lay; no instruction
  refine returnsInHanded_of_row (C := Tryd.checked) (s := OpenSpec.ofChange Rows.fnExactPrintProgramSpec) own started (by kernel_rfl) Tryd.func7
    (witness_row_at (enc := enc) (C := Tryd.checked) false
      ({ World.holding Tryd.prog os ⟨#[], #[], []⟩ with heap := Array.modify (Array.modify (Array.modify (Array.modify (World.holding Tryd.prog os ⟨#[], #[], []⟩).heap 0 (put #[.string ⟨#[]⟩, .int .i64 0, .int .i64 0, .int .i64 0, .int .i64 0, .string ⟨#[108, 105, 116]⟩, .int .i64 2000, .int .i64 0, .int .i64 0, .int .i64 1, .string ⟨#[99, 97, 116]⟩, .int .i64 0, .int .i64 0, .int .i64 2, .int .i64 1, .string ⟨#[99, 117, 116]⟩, .int .i64 0, .int .i64 2000, .int .i64 1, .int .i64 1, .string ⟨#[114, 101, 115, 116]⟩, .int .i64 0, .int .i64 2000, .int .i64 1, .int .i64 1, .string ⟨#[119, 111, 114, 100]⟩, .int .i64 0, .int .i64 2000, .int .i64 1, .int .i64 1, .string ⟨#[115, 97, 109, 101]⟩, .int .i64 0, .int .i64 0, .int .i64 2, .int .i64 1, .string ⟨#[100, 117, 112]⟩, .int .i64 0, .int .i64 0, .int .i64 1, .int .i64 2, .string ⟨#[115, 119, 97, 112]⟩, .int .i64 0, .int .i64 0, .int .i64 2, .int .i64 2, .string ⟨#[100, 114, 111, 112]⟩, .int .i64 0, .int .i64 0, .int .i64 1, .int .i64 0, .string ⟨#[106, 117, 109, 112]⟩, .int .i64 0, .int .i64 200, .int .i64 0, .int .i64 0, .string ⟨#[117, 110, 108, 101, 115, 115]⟩, .int .i64 0, .int .i64 200, .int .i64 1, .int .i64 0, .string ⟨#[97, 115, 107]⟩, .int .i64 0, .int .i64 0, .int .i64 1, .int .i64 1, .string ⟨#[104, 97, 115]⟩, .int .i64 0, .int .i64 0, .int .i64 1, .int .i64 1, .string ⟨#[102, 97, 105, 108]⟩, .int .i64 0, .int .i64 0, .int .i64 1, .int .i64 0, .string ⟨#[101, 110, 100]⟩, .int .i64 0, .int .i64 0, .int .i64 1, .int .i64 0])) 1 (put #[.int .u64 1, .int .u64 10, .int .u64 100, .int .u64 1000, .int .u64 10000, .int .u64 100000, .int .u64 1000000, .int .u64 10000000, .int .u64 100000000, .int .u64 1000000000, .int .u64 10000000000, .int .u64 100000000000, .int .u64 1000000000000, .int .u64 10000000000000, .int .u64 100000000000000, .int .u64 1000000000000000, .int .u64 10000000000000000, .int .u64 100000000000000000, .int .u64 1000000000000000000, .int .u64 10000000000000000000])) 2 (put #[.int .u8 0, .int .u8 1, .int .u8 28, .int .u8 2, .int .u8 29, .int .u8 14, .int .u8 24, .int .u8 3, .int .u8 30, .int .u8 22, .int .u8 20, .int .u8 15, .int .u8 25, .int .u8 17, .int .u8 4, .int .u8 8, .int .u8 31, .int .u8 27, .int .u8 13, .int .u8 23, .int .u8 21, .int .u8 19, .int .u8 16, .int .u8 7, .int .u8 26, .int .u8 12, .int .u8 18, .int .u8 6, .int .u8 11, .int .u8 5, .int .u8 10, .int .u8 9])) 3 (put #[.int .u8 0, .int .u8 1, .int .u8 56, .int .u8 2, .int .u8 57, .int .u8 49, .int .u8 28, .int .u8 3, .int .u8 61, .int .u8 58, .int .u8 42, .int .u8 50, .int .u8 38, .int .u8 29, .int .u8 17, .int .u8 4, .int .u8 62, .int .u8 47, .int .u8 59, .int .u8 36, .int .u8 45, .int .u8 43, .int .u8 51, .int .u8 22, .int .u8 53, .int .u8 39, .int .u8 33, .int .u8 30, .int .u8 24, .int .u8 18, .int .u8 12, .int .u8 5, .int .u8 63, .int .u8 55, .int .u8 48, .int .u8 27, .int .u8 60, .int .u8 41, .int .u8 37, .int .u8 16, .int .u8 46, .int .u8 35, .int .u8 44, .int .u8 21, .int .u8 52, .int .u8 32, .int .u8 23, .int .u8 11, .int .u8 54, .int .u8 26, .int .u8 40, .int .u8 15, .int .u8 34, .int .u8 20, .int .u8 31, .int .u8 10, .int .u8 25, .int .u8 14, .int .u8 19, .int .u8 9, .int .u8 13, .int .u8 8, .int .u8 7, .int .u8 6]) } : World)
      noArgs rfl (by kernel_rfl) (by kernel_rfl) (by kernel_rfl)
      (OpenSpec.preRow_of_cond 8 (x := ([.agg [.nil]], [Rows.laid_loop_example_kilndeed_impl_rows], MemPlace.row ⟨0, 0, none⟩ 80)) (by kernel_rfl) (by kernel_rfl) (fun k hk => by cases hk) (by kernel_rfl) (laidMet_of_run' 8 (by kernel_rfl) (by kernel_rfl)))) ?_
  intro W base args ds gs before hval hW _ _ _ hL _ _
  exact contract H enc W base args ds gs before hval hW hL

theorem said : Rows.FnExactPrintProgramSaid :=
  OpenClaim.holds_of_cond 7 Tryd.f7 rfl rfl rfl rfl rfl rfl rfl ⟨rfl, rfl, rfl, rfl, rfl⟩ rfl rfl rfl rfl rfl (by kernel_rfl) Tryd.func7 (by kernel_rfl)
    (of_decide_eq_true (by kernel_rfl)) (by unfold Func.isWrapper; first | (rw [if_pos (by decide +kernel)]; kernel_rfl) | (rw [if_neg (by decide +kernel)]; exact ⟨rfl, rfl⟩))
    (fun os started H enc _ F => by rw [OpenClaim.pre_eq_preRow]; exact lifted os started H enc F)

theorem plain (f : FuncId) (fn : Func) (hf : Tryd.pinned.checked.prog.funcNamed Rows.fnExactPrintProgramRow.func = some f) (hfn : Tryd.pinned.checked.prog.funcs[f]? = some fn) :
    false = Tryd.pinned.checked.prog.looks [] ∧ ∀ (j : Nat) t, fn.params[j]? = some t → Tryd.pinned.checked.prog.wantsStandIn t = false := by
  obtain rfl : f = 7 := Option.some.inj ((show Tryd.prog.funcNamed Rows.fnExactPrintProgramRow.func = some 7 by kernel_rfl).symm.trans hf) |>.symm
  obtain rfl : fn = Tryd.f7 := (Option.some.inj (Tryd.func7.symm.trans hfn)).symm
  refine ⟨by kernel_rfl, fun j t ht => ?_⟩
  rw [Tryd.params7] at ht
  obtain rfl : t = 52 := by simpa using Array.mem_of_getElem? ht
  exact (show Tryd.prog.wantsStandIn 52 = false by kernel_rfl)

/-- THE CARD. -/
theorem card : Rows.FnExactPrintProgramCardSaid :=
  Claim7.holds_tied_plain_at .later [] _ _ _ _ said (fun _ h => by cases h) (by kernel_rfl) (fun _ h => by cases h) fnExactPrintProgram_row_tie rfl ⟨rfl, rfl⟩ (by kernel_rfl) rfl plain (by kernel_rfl)

end Go.Proofs.YtolpgafkojlkoaaDoor.Pp
namespace Go.Proofs.YtolpgafkojlkoaaDoor
theorem fnExactPrintProgram_card : Rows.FnExactPrintProgramCardSaid := Pp.card
#print axioms fnExactPrintProgram_card
end Go.Proofs.YtolpgafkojlkoaaDoor
