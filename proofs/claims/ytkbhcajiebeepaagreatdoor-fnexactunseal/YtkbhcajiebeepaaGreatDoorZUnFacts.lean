/-
  Put together of: UnFacts, UnList.
-/
import Derived.Test.YtkbhcajiebeepaaGreatDoorRows
import Derived.JoinedCond
import Derived.KernelRfl
import Derived.Test.YtkbhcajiebeepaaGreatDoorZRaAll
import Derived.Test.YtkbhcajiebeepaaGreatDoorTie
import Derived.ProofKit
import Derived.OpenShut
import Derived.Deep.DeepHandedRow
import Derived.Lib.SmallJoins
import Derived.Lib.LaidTab
import Derived.Stop.LaidErr
import Derived.Stop.LaidTwo

/-
  FnExactUnseal: what the row says of the program, fact by fact (one fact, one lemma: in one piece the kernel outgrows its lid).
-/
namespace Go.Proofs.YtkbhcajiebeepaaGreatDoor.Unc

theorem and2 {a b : Bool} (h : a = true) (g : b = true) : (a && b) = true := by rw [h, g]; rfl
set_option maxRecDepth 100000 in
set_option maxHeartbeats 8000000 in
theorem facts : joinedFacts Tryz.prog 4 Tryz.f4 (OpenSpec.ofChange Rows.fnExactUnsealSpec).bare Rows.fnExactUnsealRow = true := by
  unfold joinedFacts
  repeat' with_reducible refine and2 ?_ ?_
  all_goals as_aux_lemma => kernel_rfl

end Go.Proofs.YtkbhcajiebeepaaGreatDoor.Unc

/-
  The row on Unseal: what its list gives.
-/
namespace Go.Proofs.YtkbhcajiebeepaaGreatDoor.Unc
open Go.ChangeShapes Go.WideShapes Go.ChangeAt Go.RowKit Go.Deep Go.Proofs.YtkbhcajiebeepaaGreatDoor.Vp

theorem own : ownKnob Tryz.prog.godebug = none := by kernel_rfl
theorem laidOut : laidOutB Tryz.prog = true := by kernel_rfl
abbrev rowsName : String := "loop.example/kilndeed/impl.rows"
theorem gRows : Tryz.prog.globalNamed rowsName = some 4 := by kernel_rfl
theorem tRows : (Tryz.prog.globals[4]?).map (·.type) = some 148 := by kernel_rfl
theorem tPow : (Tryz.prog.globals[7]?).map (·.type) = some 159 := by kernel_rfl
theorem cellsPow : Tryz.prog.cellsOf 159 = 20 := by kernel_rfl
theorem cellsU64 : Tryz.prog.cellsOf 82 = 1 := by kernel_rfl
theorem cRow : Tryz.prog.cellsOf 147 = 5 := by kernel_rfl
theorem cInt : Tryz.prog.cellsOf 3 = 1 := by kernel_rfl
theorem cStr : Tryz.prog.cellsOf 9 = 1 := by kernel_rfl
theorem cES : Tryz.prog.cellsOf 188 = 1 := by kernel_rfl

theorem rowsAt : ∀ k : Nat, k < 16 → ∃ (t p : DataW Unit) (L : List (DataW Unit)), Rows.laid_loop_example_kilndeed_impl_rows = .agg L ∧ L[k]? = some (.agg [.lit (.string (word k)), .lit (.int .i64 (mostText k)), .lit (.int .i64 (mostN k)), t, p]) := by
  intro k hk
  rcases (show k = 0 ∨ k = 1 ∨ k = 2 ∨ k = 3 ∨ k = 4 ∨ k = 5 ∨ k = 6 ∨ k = 7 ∨ k = 8 ∨ k = 9 ∨ k = 10 ∨ k = 11 ∨ k = 12 ∨ k = 13 ∨ k = 14 ∨ k = 15 by omega) with rfl | rfl | rfl | rfl | rfl | rfl | rfl | rfl | rfl | rfl | rfl | rfl | rfl | rfl | rfl | rfl
  all_goals exact ⟨_, _, _, rfl, rfl⟩

theorem at_of_sliceP {cs : List Value} {o j : Nat} {v : Value} (hj : j < 5) (h : (((cs.drop o).take 5).drop j).take 1 = [v]) : cs[o + j]? = some v := by
  have h2 : ((((cs.drop o).take 5).drop j).take 1)[0]? = some v := by rw [h]; rfl
  simpa [List.getElem?_take, hj] using h2

/-- What a reading of the table gives: words and bounds. -/
theorem rows_of {W : World} {enc : TypeId × Value → Unit} {sp : Nat → Bool} {held : Bool} {fuel : Nat} {cs0 : Array Value} {p : List MemPlace} (hv0 : W.var? Tryz.prog rowsName = some cs0)
    (hd0 : DataW.trod enc Tryz.prog W 0 sp held fuel 148 cs0.toList = some (Rows.laid_loop_example_kilndeed_impl_rows, p)) : Tab W ∧ TabW W := by
  obtain ⟨xs, m, _, hx, _, hn, hel⟩ := DataW.trod_array Tryz.underlying148 hd0
  rw [cRow] at hel
  have key : ∀ k, k < 16 → cs0.toList[k * 5 + 0]? = some (.string ⟨(word k).toArray⟩) ∧ cs0.toList[k * 5 + 1]? = some (.int .i64 (mostText k)) ∧ cs0.toList[k * 5 + 2]? = some (.int .i64 (mostN k)) := by
    intro k hk
    obtain ⟨t, p, L, hL, hLk⟩ := rowsAt k hk
    rw [hL] at hx
    simp only [Prod.mk.injEq, DataW.agg.injEq] at hx
    have hk2 := hel k hk
    rw [hx.1, List.getElem?_map] at hLk
    obtain ⟨y, hy, hy1⟩ := Option.map_eq_some_iff.1 hLk
    rw [hy] at hk2
    obtain ⟨ys, n, _, hys, _, _, hf⟩ := DataW.trod_struct Tryz.underlying147 hk2
    have hz : ys.map (·.1) = [.lit (.string (word k)), .lit (.int .i64 (mostText k)), .lit (.int .i64 (mostN k)), t, p] := by
      rw [hys] at hy1
      simpa using hy1
    have h0 : DataW.trod _ Tryz.prog W 0 _ _ n 9 ((((cs0.toList.drop (k * 5)).take 5).drop 0).take (Tryz.prog.cellsOf 9)) = ys[0]? := hf 0 _ rfl
    have h1 : DataW.trod _ Tryz.prog W 0 _ _ n 3 ((((cs0.toList.drop (k * 5)).take 5).drop 1).take (Tryz.prog.cellsOf 3)) = ys[1]? := hf 1 _ rfl
    have h2 : DataW.trod _ Tryz.prog W 0 _ _ n 3 ((((cs0.toList.drop (k * 5)).take 5).drop 2).take (Tryz.prog.cellsOf 3)) = ys[2]? := hf 2 _ rfl
    rw [cInt] at h1 h2
    rw [cStr] at h0
    match ys, hz with
    | [y0, y1, y2, y3, y4], hz =>
      simp only [List.map_cons, List.map_nil, List.cons.injEq, and_true] at hz
      obtain ⟨s0, e0, x0, _⟩ := DataW.trod_string Tryz.underlying9 (show DataW.trod _ Tryz.prog W 0 _ _ n 9 _ = some y0 from h0)
      obtain ⟨z1, e1, x1, _⟩ := DataW.trod_int Tryz.underlying3 (show DataW.trod _ Tryz.prog W 0 _ _ n 3 _ = some y1 from h1)
      obtain ⟨z2, e2, x2, _⟩ := DataW.trod_int Tryz.underlying3 (show DataW.trod _ Tryz.prog W 0 _ _ n 3 _ = some y2 from h2)
      have w0 : s0 = ⟨(word k).toArray⟩ := by
        have := hz.1
        rw [x0] at this
        simp only [DataW.lit.injEq, Lit.string.injEq] at this
        rw [← this]
      have w1 : z1 = mostText k := by have := hz.2.1; rw [x1] at this; simpa using this
      have w2 : z2 = mostN k := by have := hz.2.2.1; rw [x2] at this; simpa using this
      rw [w0] at e0
      rw [w1] at e1
      rw [w2] at e2
      exact ⟨at_of_sliceP (by omega) e0, at_of_sliceP (by omega) e1, at_of_sliceP (by omega) e2⟩
  refine ⟨⟨?_, fun k hk => ?_⟩, fun k hk => ?_⟩
  · have hc := World.var?_cell gRows hv0 1
    have := (key 0 (by omega)).2.1
    simp only [Nat.zero_mul, Nat.zero_add, Array.getElem?_toList] at this
    rw [this] at hc
    rcases Nat.lt_or_ge 4 W.heap.size with h' | h'
    · exact h'
    · simp [World.cell?, Array.getElem?_eq_none h'] at hc
  · have c1 := World.var?_cell gRows hv0 (k * 5 + 1)
    have c2 := World.var?_cell gRows hv0 (k * 5 + 2)
    have hk2 := key k hk
    simp only [Array.getElem?_toList] at hk2
    exact ⟨c1.trans hk2.2.1, c2.trans hk2.2.2⟩
  · have c0 := World.var?_cell gRows hv0 (k * 5)
    have hk2 := key k hk
    simp only [Array.getElem?_toList, Nat.add_zero] at hk2
    exact c0.trans hk2.1

theorem pow_of {W : World} {enc : TypeId × Value → Unit} {sp : Nat → Bool} {held : Bool} {fuel : Nat} {cs : Array Value} {p : List MemPlace} (hv : W.var? Tryz.prog "internal/strconv.uint64pow10" = some cs)
    (hd : DataW.trod enc Tryz.prog W 0 sp held fuel 159 cs.toList = some (Rows.laid_internal_strconv_uint64pow10, p)) : Pow W := by
  have e := Lib.cells_of_tab (k := .u64) (zs := Lib.pow10Tab) Tryz.underlying159 Tryz.underlying82 cellsU64 cellsPow hd
  show W.var? Tryz.prog _ = some _
  rw [hv, ← e]

theorem g_errNoTarget : Tryz.prog.globalNamed "loop.example/kilndeed/impl.errNoTarget" = some 1 := by kernel_rfl
theorem t_errNoTarget : (Tryz.prog.globals[1]?).map (·.type) = some 35 := by kernel_rfl
theorem g_errWord : Tryz.prog.globalNamed "loop.example/kilndeed/impl.errWord" = some 0 := by kernel_rfl
theorem t_errWord : (Tryz.prog.globals[0]?).map (·.type) = some 35 := by kernel_rfl
theorem g_errOperand : Tryz.prog.globalNamed "loop.example/kilndeed/impl.errOperand" = some 5 := by kernel_rfl
theorem t_errOperand : (Tryz.prog.globals[5]?).map (·.type) = some 35 := by kernel_rfl
theorem g_errNumber : Tryz.prog.globalNamed "loop.example/kilndeed/impl.errNumber" = some 2 := by kernel_rfl
theorem t_errNumber : (Tryz.prog.globals[2]?).map (·.type) = some 35 := by kernel_rfl
theorem g_errQuote : Tryz.prog.globalNamed "loop.example/kilndeed/impl.errQuote" = some 3 := by kernel_rfl
theorem t_errQuote : (Tryz.prog.globals[3]?).map (·.type) = some 35 := by kernel_rfl
theorem g_errBound : Tryz.prog.globalNamed "loop.example/kilndeed/impl.errBound" = some 6 := by kernel_rfl
theorem t_errBound : (Tryz.prog.globals[6]?).map (·.type) = some 35 := by kernel_rfl
theorem g_ErrRange : Tryz.prog.globalNamed "strconv.ErrRange" = some 12 := by kernel_rfl
theorem t_ErrRange : (Tryz.prog.globals[12]?).map (·.type) = some 35 := by kernel_rfl
theorem g_ErrSyntax : Tryz.prog.globalNamed "strconv.ErrSyntax" = some 11 := by kernel_rfl
theorem t_ErrSyntax : (Tryz.prog.globals[11]?).map (·.type) = some 35 := by kernel_rfl
theorem star : "*" ++ "errors.errorString" = "*errors.errorString" := by decide
theorem rowES (u : TypeId) (h : Tryz.prog.typeName? 3 u = some "*errors.errorString") : u = 186 :=
  typeName_ptr_named (nm := "errors.errorString") (by rw [star]; kernel_rfl) (by kernel_rfl) (by decide) u (by rw [star]; exact h)
theorem laid_head {n : String} {d : DataW Unit} {r : List (String × DataW Unit)} {W : World} (h : laidMet Tryz.prog ((n, d) :: r) W) : ∃ g t cs fuel p, Tryz.prog.globalNamed n = some g ∧ (Tryz.prog.globals[g]?).map (·.type) = some t ∧ W.var? Tryz.prog n = some cs ∧ DataW.trod (fun _ => ()) Tryz.prog W 0 (fun _ => true) false fuel t cs.toList = some (d, p) := by
  obtain ⟨ps, ⟨g, t, cs, fuel, p, q, h1, h2, h3, h4, _⟩, _⟩ := h
  exact ⟨g, t, cs, fuel, p, h1, h2, h3, h4⟩
theorem ev_of {W : World} {n : String} {g : Nat} {x : Value} (hg : Tryz.prog.globalNamed n = some g) (hv : W.var? Tryz.prog n = some #[x]) : g < W.heap.size ∧ W.cell? ⟨g, 0, none⟩ = some x := by
  have hc : W.cell? ⟨g, 0, none⟩ = some x := by simpa using World.var?_cell hg hv 0
  refine ⟨?_, hc⟩
  rcases Nat.lt_or_ge g W.heap.size with h | h
  · exact h
  · simp [World.cell?, Array.getElem?_eq_none h] at hc
theorem sent {W : World} {n : String} {g : Nat} {text : List UInt8} {r : List (String × DataW Unit)} (h : laidMet Tryz.prog ((n, .iface "*errors.errorString" (.ptr (.agg [.lit (.string text)]))) :: r) W) (hg : Tryz.prog.globalNamed n = some g) (ht : (Tryz.prog.globals[g]?).map (·.type) = some 35) : EV W g := by
  obtain ⟨a, s, hv, _⟩ := laid_sentinel h hg ht Tryz.underlying35 rowES Tryz.underlying186 Tryz.underlying188 rfl rfl Tryz.underlying9 cES cStr
  obtain ⟨h1, h2⟩ := ev_of hg hv
  exact ⟨h1, _, _, h2⟩
theorem pow_lt {W : World} {cs : Array Value} (hv : W.var? Tryz.prog "internal/strconv.uint64pow10" = some cs) : 7 < W.heap.size := by
  rcases Nat.lt_or_ge 7 W.heap.size with h | h
  · exact h
  · simp [World.var?, gPow, Array.getElem?_eq_none h] at hv
theorem gDeb : Tryz.prog.globalNamed "math/bits.deBruijn64tab" = some 10 := by kernel_rfl
theorem tDeb : (Tryz.prog.globals[10]?).map (·.type) = some 180 := by kernel_rfl
theorem cellsDeb : Tryz.prog.cellsOf 180 = 64 := by kernel_rfl
theorem cellsU8 : Tryz.prog.cellsOf 5 = 1 := by kernel_rfl
def debTab : List Int := ([.int .u8 0, .int .u8 1, .int .u8 56, .int .u8 2, .int .u8 57, .int .u8 49, .int .u8 28, .int .u8 3, .int .u8 61, .int .u8 58, .int .u8 42, .int .u8 50, .int .u8 38, .int .u8 29, .int .u8 17, .int .u8 4, .int .u8 62, .int .u8 47, .int .u8 59, .int .u8 36, .int .u8 45, .int .u8 43, .int .u8 51, .int .u8 22, .int .u8 53, .int .u8 39, .int .u8 33, .int .u8 30, .int .u8 24, .int .u8 18, .int .u8 12, .int .u8 5, .int .u8 63, .int .u8 55, .int .u8 48, .int .u8 27, .int .u8 60, .int .u8 41, .int .u8 37, .int .u8 16, .int .u8 46, .int .u8 35, .int .u8 44, .int .u8 21, .int .u8 52, .int .u8 32, .int .u8 23, .int .u8 11, .int .u8 54, .int .u8 26, .int .u8 40, .int .u8 15, .int .u8 34, .int .u8 20, .int .u8 31, .int .u8 10, .int .u8 25, .int .u8 14, .int .u8 19, .int .u8 9, .int .u8 13, .int .u8 8, .int .u8 7, .int .u8 6] : List Value).map fun | .int _ z => z | _ => 0

theorem deb_of {W : World} {enc : TypeId × Value → Unit} {sp : Nat → Bool} {held : Bool} {fuel : Nat} {cs : Array Value} {p : List MemPlace} (hv : W.var? Tryz.prog "math/bits.deBruijn64tab" = some cs)
    (hd : DataW.trod enc Tryz.prog W 0 sp held fuel 180 cs.toList = some (Rows.laid_math_bits_deBruijn64tab, p)) : Deb W := by
  have e := Lib.cells_of_tab (k := .u8) (zs := debTab) Tryz.underlying180 Tryz.underlying5 cellsU8 cellsDeb hd
  have c := World.var?_cell gDeb hv 15
  have e2 : cs.toList[15]? = some (.int .u8 4) := by rw [e]; rfl
  rw [Array.getElem?_toList] at e2
  exact c.trans e2

/-- The list. -/
def plainList : List (String × DataW Unit) := [("math/bits.deBruijn32tab", Rows.laid_math_bits_deBruijn32tab), ("math/bits.deBruijn64tab", Rows.laid_math_bits_deBruijn64tab), ("internal/strconv.uint64pow10", Rows.laid_internal_strconv_uint64pow10), ("strconv.ErrRange", Rows.laid_strconv_ErrRange), ("strconv.ErrSyntax", Rows.laid_strconv_ErrSyntax), ("loop.example/kilndeed/impl.rows", Rows.laid_loop_example_kilndeed_impl_rows), ("loop.example/kilndeed/impl.errWord", Rows.laid_loop_example_kilndeed_impl_errWord), ("loop.example/kilndeed/impl.errOperand", Rows.laid_loop_example_kilndeed_impl_errOperand), ("loop.example/kilndeed/impl.errNumber", Rows.laid_loop_example_kilndeed_impl_errNumber), ("loop.example/kilndeed/impl.errQuote", Rows.laid_loop_example_kilndeed_impl_errQuote), ("loop.example/kilndeed/impl.errBound", Rows.laid_loop_example_kilndeed_impl_errBound), ("loop.example/kilndeed/impl.errNoTarget", Rows.laid_loop_example_kilndeed_impl_errNoTarget)]
theorem laid_parts {W : World} (h : laidMetH Tryz.prog Rows.fnExactUnsealRow.laid W) : laidMet Tryz.prog plainList W := by
  rw [MakeChecks.laidMetH_plain _ _ _ (by kernel_rfl)] at h
  exact h
/-- WHAT THE ROW's LIST GIVES. -/
theorem tables {W : World} (h : laidMetH Tryz.prog Rows.fnExactUnsealRow.laid W) : Lay W ∧ EV W 1 ∧ Deb W := by
  have h0 := laid_parts h
  unfold plainList at h0
  have h1 := h0.tail
  obtain ⟨g1, t1, cs1, f1, p1, hg1, ht1, hv1, hd1⟩ := laid_head h1
  obtain rfl := Option.some.inj (gDeb.symm.trans hg1)
  obtain rfl := Option.some.inj (tDeb.symm.trans ht1)
  have h2 := h1.tail
  obtain ⟨g2, t2, cs2, f2, p2, hg2, ht2, hv2, hd2⟩ := laid_head h2
  obtain rfl := Option.some.inj (gPow.symm.trans hg2)
  obtain rfl := Option.some.inj (tPow.symm.trans ht2)
  have h3 := h2.tail
  have h4 := h3.tail
  have h5 := h4.tail
  obtain ⟨g5, t5, cs5, f5, p5, hg5, ht5, hv5, hd5⟩ := laid_head h5
  obtain rfl := Option.some.inj (gRows.symm.trans hg5)
  obtain rfl := Option.some.inj (tRows.symm.trans ht5)
  have h6 := h5.tail
  have h7 := h6.tail
  have h8 := h7.tail
  have h9 := h8.tail
  have h10 := h9.tail
  have h11 := h10.tail
  exact ⟨⟨(rows_of hv5 hd5).2, (rows_of hv5 hd5).1, sent h9 g_errQuote t_errQuote, sent h8 g_errNumber t_errNumber, sent h6 g_errWord t_errWord, sent h7 g_errOperand t_errOperand, sent h10 g_errBound t_errBound, sent h4 g_ErrSyntax t_ErrSyntax, sent h3 g_ErrRange t_ErrRange, pow_of hv2 hd2, pow_lt hv2⟩, sent h11 g_errNoTarget t_errNoTarget, deb_of hv1 hd1⟩

end Go.Proofs.YtkbhcajiebeepaaGreatDoor.Unc
