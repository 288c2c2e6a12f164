/-
  The row on FnProgram: what its list gives.
-/
import Derived.Test.YtpefignfaooonaaGreatDoorZFpLaw
import Derived.Test.YtpefignfaooonaaGreatDoorTie
import Derived.ProofKit
import Derived.OpenShut
import Derived.Deep.DeepHandedRow
import Derived.Lib.SmallJoins
import Derived.Lib.LaidTab
import Derived.LaidHandle
import Derived.Stop.LaidErr
import Derived.Stop.LaidTwo
namespace Go.Proofs.YtpefignfaooonaaGreatDoor.Fpc
open Go.ChangeShapes Go.WideShapes Go.ChangeAt Go.RowKit Go.Deep Go.Proofs.YtpefignfaooonaaGreatDoor.Vp

theorem own : ownKnob Tryz.prog.godebug = none := by kernel_rfl
theorem laidOut : laidOutB Tryz.prog = true := by kernel_rfl
abbrev rowsName : String := "loop.example/kilndeed/impl.rows"
theorem gRows : Tryz.prog.globalNamed rowsName = some 3 := by kernel_rfl
theorem tRows : (Tryz.prog.globals[3]?).map (·.type) = some 92 := by kernel_rfl
theorem tPow : (Tryz.prog.globals[11]?).map (·.type) = some 154 := by kernel_rfl
theorem cellsPow : Tryz.prog.cellsOf 154 = 20 := by kernel_rfl
theorem cellsU64 : Tryz.prog.cellsOf 139 = 1 := by kernel_rfl
theorem cRow : Tryz.prog.cellsOf 91 = 5 := by kernel_rfl
theorem cInt : Tryz.prog.cellsOf 3 = 1 := by kernel_rfl
theorem cStr : Tryz.prog.cellsOf 9 = 1 := by kernel_rfl
theorem cES : Tryz.prog.cellsOf 167 = 1 := by kernel_rfl

theorem rowsAt : ∀ k : Nat, k < 16 → ∃ (t p : DataW Unit) (L : List (DataW Unit)), Rows.laid_loop_example_kilndeed_impl_rows = .agg L ∧ L[k]? = some (.agg [.lit (.string (word k)), .lit (.int .i64 (mostText k)), .lit (.int .i64 (mostN k)), t, p]) := by
  intro k hk
  rcases (show k = 0 ∨ k = 1 ∨ k = 2 ∨ k = 3 ∨ k = 4 ∨ k = 5 ∨ k = 6 ∨ k = 7 ∨ k = 8 ∨ k = 9 ∨ k = 10 ∨ k = 11 ∨ k = 12 ∨ k = 13 ∨ k = 14 ∨ k = 15 by omega) with rfl | rfl | rfl | rfl | rfl | rfl | rfl | rfl | rfl | rfl | rfl | rfl | rfl | rfl | rfl | rfl
  all_goals exact ⟨_, _, _, rfl, rfl⟩

theorem at_of_sliceP {cs : List Value} {o j : Nat} {v : Value} (hj : j < 5) (h : (((cs.drop o).take 5).drop j).take 1 = [v]) : cs[o + j]? = some v := by
  have h2 : ((((cs.drop o).take 5).drop j).take 1)[0]? = some v := by rw [h]; rfl
  simpa [List.getElem?_take, hj] using h2

/-- What a reading of the table gives: words and bounds. -/
theorem rows_of {W : World} {enc : TypeId × Value → Unit} {sp : Nat → Bool} {held : Bool} {fuel : Nat} {cs0 : Array Value} {p : List MemPlace} (hv0 : W.var? Tryz.prog rowsName = some cs0)
    (hd0 : DataW.trod enc Tryz.prog W 0 sp held fuel 92 cs0.toList = some (Rows.laid_loop_example_kilndeed_impl_rows, p)) : Tab W ∧ TabW W := by
  obtain ⟨xs, m, _, hx, _, hn, hel⟩ := DataW.trod_array Tryz.underlying92 hd0
  rw [cRow] at hel
  have key : ∀ k, k < 16 → cs0.toList[k * 5 + 0]? = some (.string ⟨(word k).toArray⟩) ∧ cs0.toList[k * 5 + 1]? = some (.int .i64 (mostText k)) ∧ cs0.toList[k * 5 + 2]? = some (.int .i64 (mostN k)) := by
    intro k hk
    obtain ⟨t, p, L, hL, hLk⟩ := rowsAt k hk
    rw [hL] at hx
    simp only [Prod.mk.injEq, DataW.agg.injEq] at hx
    have hk2 := hel k hk
    rw [hx.1, List.getElem?_map] at hLk
    obtain ⟨y, hy, hy1⟩ := Option.map_eq_some_iff.1 hLk
    rw [hy] at hk2
    obtain ⟨ys, n, _, hys, _, _, hf⟩ := DataW.trod_struct Tryz.underlying91 hk2
    have hz : ys.map (·.1) = [.lit (.string (word k)), .lit (.int .i64 (mostText k)), .lit (.int .i64 (mostN k)), t, p] := by
      rw [hys] at hy1
      simpa using hy1
    have h0 : DataW.trod _ Tryz.prog W 0 _ _ n 9 ((((cs0.toList.drop (k * 5)).take 5).drop 0).take (Tryz.prog.cellsOf 9)) = ys[0]? := hf 0 _ rfl
    have h1 : DataW.trod _ Tryz.prog W 0 _ _ n 3 ((((cs0.toList.drop (k * 5)).take 5).drop 1).take (Tryz.prog.cellsOf 3)) = ys[1]? := hf 1 _ rfl
    have h2 : DataW.trod _ Tryz.prog W 0 _ _ n 3 ((((cs0.toList.drop (k * 5)).take 5).drop 2).take (Tryz.prog.cellsOf 3)) = ys[2]? := hf 2 _ rfl
    rw [cInt] at h1 h2
    rw [cStr] at h0
    match ys, hz with
    | [y0, y1, y2, y3, y4], hz =>
      simp only [List.map_cons, List.map_nil, List.cons.injEq, and_true] at hz
      obtain ⟨s0, e0, x0, _⟩ := DataW.trod_string Tryz.underlying9 (show DataW.trod _ Tryz.prog W 0 _ _ n 9 _ = some y0 from h0)
      obtain ⟨z1, e1, x1, _⟩ := DataW.trod_int Tryz.underlying3 (show DataW.trod _ Tryz.prog W 0 _ _ n 3 _ = some y1 from h1)
      obtain ⟨z2, e2, x2, _⟩ := DataW.trod_int Tryz.underlying3 (show DataW.trod _ Tryz.prog W 0 _ _ n 3 _ = some y2 from h2)
      have w0 : s0 = ⟨(word k).toArray⟩ := by
        have := hz.1
        rw [x0] at this
        simp only [DataW.lit.injEq, Lit.string.injEq] at this
        rw [← this]
      have w1 : z1 = mostText k := by have := hz.2.1; rw [x1] at this; simpa using this
      have w2 : z2 = mostN k := by have := hz.2.2.1; rw [x2] at this; simpa using this
      rw [w0] at e0
      rw [w1] at e1
      rw [w2] at e2
      exact ⟨at_of_sliceP (by omega) e0, at_of_sliceP (by omega) e1, at_of_sliceP (by omega) e2⟩
  refine ⟨⟨?_, fun k hk => ?_⟩, fun k hk => ?_⟩
  · have hc := World.var?_cell gRows hv0 1
    have := (key 0 (by omega)).2.1
    simp only [Nat.zero_mul, Nat.zero_add, Array.getElem?_toList] at this
    rw [this] at hc
    rcases Nat.lt_or_ge 3 W.heap.size with h' | h'
    · exact h'
    · simp [World.cell?, Array.getElem?_eq_none h'] at hc
  · have c1 := World.var?_cell gRows hv0 (k * 5 + 1)
    have c2 := World.var?_cell gRows hv0 (k * 5 + 2)
    have hk2 := key k hk
    simp only [Array.getElem?_toList] at hk2
    exact ⟨c1.trans hk2.2.1, c2.trans hk2.2.2⟩
  · have c0 := World.var?_cell gRows hv0 (k * 5)
    have hk2 := key k hk
    simp only [Array.getElem?_toList, Nat.add_zero] at hk2
    exact c0.trans hk2.1

theorem pow_of {W : World} {enc : TypeId × Value → Unit} {sp : Nat → Bool} {held : Bool} {fuel : Nat} {cs : Array Value} {p : List MemPlace} (hv : W.var? Tryz.prog "internal/strconv.uint64pow10" = some cs)
    (hd : DataW.trod enc Tryz.prog W 0 sp held fuel 154 cs.toList = some (Rows.laid_internal_strconv_uint64pow10, p)) : Pow W := by
  have e := Lib.cells_of_tab (k := .u64) (zs := Lib.pow10Tab) Tryz.underlying154 Tryz.underlying139 cellsU64 cellsPow hd
  show W.var? Tryz.prog _ = some _
  rw [hv, ← e]

theorem g_errSize : Tryz.prog.globalNamed "loop.example/kilndeed/impl.errSize" = some 0 := by kernel_rfl
theorem t_errSize : (Tryz.prog.globals[0]?).map (·.type) = some 45 := by kernel_rfl
theorem g_errMany : Tryz.prog.globalNamed "loop.example/kilndeed/impl.errMany" = some 2 := by kernel_rfl
theorem t_errMany : (Tryz.prog.globals[2]?).map (·.type) = some 45 := by kernel_rfl
theorem g_errUnended : Tryz.prog.globalNamed "loop.example/kilndeed/impl.errUnended" = some 1 := by kernel_rfl
theorem t_errUnended : (Tryz.prog.globals[1]?).map (·.type) = some 45 := by kernel_rfl
theorem g_errWord : Tryz.prog.globalNamed "loop.example/kilndeed/impl.errWord" = some 4 := by kernel_rfl
theorem t_errWord : (Tryz.prog.globals[4]?).map (·.type) = some 45 := by kernel_rfl
theorem g_errOperand : Tryz.prog.globalNamed "loop.example/kilndeed/impl.errOperand" = some 5 := by kernel_rfl
theorem t_errOperand : (Tryz.prog.globals[5]?).map (·.type) = some 45 := by kernel_rfl
theorem g_errNumber : Tryz.prog.globalNamed "loop.example/kilndeed/impl.errNumber" = some 9 := by kernel_rfl
theorem t_errNumber : (Tryz.prog.globals[9]?).map (·.type) = some 45 := by kernel_rfl
theorem g_errQuote : Tryz.prog.globalNamed "loop.example/kilndeed/impl.errQuote" = some 8 := by kernel_rfl
theorem t_errQuote : (Tryz.prog.globals[8]?).map (·.type) = some 45 := by kernel_rfl
theorem g_errBound : Tryz.prog.globalNamed "loop.example/kilndeed/impl.errBound" = some 6 := by kernel_rfl
theorem t_errBound : (Tryz.prog.globals[6]?).map (·.type) = some 45 := by kernel_rfl
theorem g_ErrRange : Tryz.prog.globalNamed "strconv.ErrRange" = some 13 := by kernel_rfl
theorem t_ErrRange : (Tryz.prog.globals[13]?).map (·.type) = some 45 := by kernel_rfl
theorem g_ErrSyntax : Tryz.prog.globalNamed "strconv.ErrSyntax" = some 12 := by kernel_rfl
theorem t_ErrSyntax : (Tryz.prog.globals[12]?).map (·.type) = some 45 := by kernel_rfl
theorem star : "*" ++ "errors.errorString" = "*errors.errorString" := by decide
theorem rowES (u : TypeId) (h : Tryz.prog.typeName? 3 u = some "*errors.errorString") : u = 165 :=
  typeName_ptr_named (nm := "errors.errorString") (by rw [star]; kernel_rfl) (by kernel_rfl) (by decide) u (by rw [star]; exact h)
theorem laid_head {n : String} {d : DataW Unit} {r : List (String × DataW Unit)} {W : World} (h : laidMet Tryz.prog ((n, d) :: r) W) : ∃ g t cs fuel p, Tryz.prog.globalNamed n = some g ∧ (Tryz.prog.globals[g]?).map (·.type) = some t ∧ W.var? Tryz.prog n = some cs ∧ DataW.trod (fun _ => ()) Tryz.prog W 0 (fun _ => true) false fuel t cs.toList = some (d, p) := by
  obtain ⟨ps, ⟨g, t, cs, fuel, p, q, h1, h2, h3, h4, _⟩, _⟩ := h
  exact ⟨g, t, cs, fuel, p, h1, h2, h3, h4⟩
theorem ev_of {W : World} {n : String} {g : Nat} {x : Value} (hg : Tryz.prog.globalNamed n = some g) (hv : W.var? Tryz.prog n = some #[x]) : g < W.heap.size ∧ W.cell? ⟨g, 0, none⟩ = some x := by
  have hc : W.cell? ⟨g, 0, none⟩ = some x := by simpa using World.var?_cell hg hv 0
  refine ⟨?_, hc⟩
  rcases Nat.lt_or_ge g W.heap.size with h | h
  · exact h
  · simp [World.cell?, Array.getElem?_eq_none h] at hc
theorem sent {W : World} {n : String} {g : Nat} {text : List UInt8} {r : List (String × DataW Unit)} (h : laidMet Tryz.prog ((n, .iface "*errors.errorString" (.ptr (.agg [.lit (.string text)]))) :: r) W) (hg : Tryz.prog.globalNamed n = some g) (ht : (Tryz.prog.globals[g]?).map (·.type) = some 45) : EV W g := by
  obtain ⟨a, s, hv, _⟩ := laid_sentinel h hg ht Tryz.underlying45 rowES Tryz.underlying165 Tryz.underlying167 rfl rfl Tryz.underlying9 cES cStr
  obtain ⟨h1, h2⟩ := ev_of hg hv
  exact ⟨h1, _, _, h2⟩
theorem pow_lt {W : World} {cs : Array Value} (hv : W.var? Tryz.prog "internal/strconv.uint64pow10" = some cs) : 11 < W.heap.size := by
  rcases Nat.lt_or_ge 11 W.heap.size with h | h
  · exact h
  · simp [World.var?, gPow, Array.getElem?_eq_none h] at hv
theorem rtT : (Tryz.prog.cutTypes.find? (·.1 == "internal/reflectlite.rtype")).map (·.2) = some 120 := by kernel_rfl
theorem oneRow : ((List.range 197).filter fun t => Tryz.prog.rowNamed t [101, 114, 114, 111, 114]) = [45] := by kernel_rfl
theorem sizeT : Tryz.prog.types.size = 197 := by kernel_rfl
theorem gET : Tryz.prog.globalNamed "errors.errorType" = some 7 := by kernel_rfl
/-- The list without the handle. -/
def plainList : List (String × DataW Unit) := [("math/bits.deBruijn32tab", Rows.laid_math_bits_deBruijn32tab), ("math/bits.deBruijn64tab", Rows.laid_math_bits_deBruijn64tab), ("internal/strconv.uint64pow10", Rows.laid_internal_strconv_uint64pow10), ("strconv.ErrRange", Rows.laid_strconv_ErrRange), ("strconv.ErrSyntax", Rows.laid_strconv_ErrSyntax), ("loop.example/kilndeed/impl.rows", Rows.laid_loop_example_kilndeed_impl_rows), ("loop.example/kilndeed/impl.errSize", Rows.laid_loop_example_kilndeed_impl_errSize), ("loop.example/kilndeed/impl.errMany", Rows.laid_loop_example_kilndeed_impl_errMany), ("loop.example/kilndeed/impl.errUnended", Rows.laid_loop_example_kilndeed_impl_errUnended), ("loop.example/kilndeed/impl.errWord", Rows.laid_loop_example_kilndeed_impl_errWord), ("loop.example/kilndeed/impl.errOperand", Rows.laid_loop_example_kilndeed_impl_errOperand), ("loop.example/kilndeed/impl.errNumber", Rows.laid_loop_example_kilndeed_impl_errNumber), ("loop.example/kilndeed/impl.errQuote", Rows.laid_loop_example_kilndeed_impl_errQuote), ("loop.example/kilndeed/impl.errBound", Rows.laid_loop_example_kilndeed_impl_errBound)]
theorem laid_parts {W : World} (h : laidMetH Tryz.prog Rows.fnProgramRow.laid W) : laidMet Tryz.prog plainList W ∧ handlesMet Tryz.prog [("errors.errorType", Rows.laid_errors_errorType)] W := h
theorem et_of {W : World} (h : handlesMet Tryz.prog [("errors.errorType", Rows.laid_errors_errorType)] W) : ET W := by
  obtain ⟨name, u, ty, e1, e2, e3, e4, e5⟩ := h _ (List.mem_singleton.2 rfl)
  have en : name = [101, 114, 114, 111, 114] := (Option.some.inj e1).symm
  subst en
  obtain rfl := Option.some.inj (rtT.symm.trans e2)
  have hm : ty ∈ (List.range 197).filter fun t => Tryz.prog.rowNamed t [101, 114, 114, 111, 114] := List.mem_filter.2 ⟨List.mem_range.2 (by rw [← sizeT]; exact e3), e4⟩
  rw [oneRow] at hm
  obtain rfl := List.mem_singleton.1 hm
  have hh : typeHandle Tryz.prog 45 = .pointer (some ⟨16, 45, none⟩) := by kernel_rfl
  rw [hh] at e5
  exact ev_of gET e5
/-- WHAT THE ROW's LIST GIVES. -/
theorem tables {W : World} (h : laidMetH Tryz.prog Rows.fnProgramRow.laid W) : LayP W ∧ (∃ ps pm, EM W ps pm) ∧ ET W := by
  obtain ⟨h0, hh⟩ := laid_parts h
  unfold plainList at h0
  have h2 := h0.tail.tail
  obtain ⟨g2, t2, cs2, f2, p2, hg2, ht2, hv2, hd2⟩ := laid_head h2
  obtain rfl := Option.some.inj (gPow.symm.trans hg2)
  obtain rfl := Option.some.inj (tPow.symm.trans ht2)
  have h3 := h2.tail
  have h4 := h3.tail
  have h5 := h4.tail
  obtain ⟨g5, t5, cs5, f5, p5, hg5, ht5, hv5, hd5⟩ := laid_head h5
  obtain rfl := Option.some.inj (gRows.symm.trans hg5)
  obtain rfl := Option.some.inj (tRows.symm.trans ht5)
  have h6 := h5.tail
  have h8 := h6.tail.tail
  have h9 := h8.tail
  have h10 := h9.tail
  have h11 := h10.tail
  have h12 := h11.tail
  have h13 := h12.tail
  obtain ⟨a0, a1, s0, s1, c0, c1, t0, t1, v0, v1, _, _, _, _, _, _, hne, hb0, hb1⟩ := laid_sentinels2 h6 g_errSize t_errSize g_errMany t_errMany Tryz.underlying45 rowES Tryz.underlying165 Tryz.underlying167 rfl rfl Tryz.underlying9 cES cStr
  obtain ⟨e1, e2⟩ := ev_of g_errSize v0
  obtain ⟨e3, e4⟩ := ev_of g_errMany v1
  exact ⟨⟨⟨(rows_of hv5 hd5).2, (rows_of hv5 hd5).1, sent h12 g_errQuote t_errQuote, sent h11 g_errNumber t_errNumber, sent h9 g_errWord t_errWord, sent h10 g_errOperand t_errOperand, sent h13 g_errBound t_errBound, sent h4 g_ErrSyntax t_ErrSyntax, sent h3 g_ErrRange t_ErrRange, pow_of hv2 hd2, pow_lt hv2⟩, sent h8 g_errUnended t_errUnended⟩, ⟨a0, a1, e1, e3, e2, e4, hne, ⟨c0, t0, hb0⟩, c1, t1, hb1⟩, et_of hh⟩

end Go.Proofs.YtpefignfaooonaaGreatDoor.Fpc
