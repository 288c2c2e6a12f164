/-
  FnExactNext: the arguments opened; the tables out of the row's list.
-/
import Derived.Test.YtfhdecheaeoopaaDoorZNxLaw
import Derived.Test.YtfhdecheaeoopaaDoorZVpOpen
import Derived.Test.YtfhdecheaeoopaaDoorTie
import Derived.Deep.DeepHandedRow
import Derived.Lib.SmallJoins
import Derived.Lib.LaidTab
namespace Go.Proofs.YtfhdecheaeoopaaDoor.Nx
open Go.ChangeShapes Go.WideShapes Go.ChangeAt Go.RowKit Go.Deep Go.Proofs.YtfhdecheaeoopaaDoor.Vp

abbrev rowsName : String := Rows.fnExactNextSpec.vars.headD default
theorem gRows : Tryd.prog.globalNamed rowsName = some 0 := by kernel_rfl
theorem tRows : (Tryd.prog.globals[0]?).map (·.type) = some 87 := by kernel_rfl
theorem tPow : (Tryd.prog.globals[1]?).map (·.type) = some 120 := by kernel_rfl
theorem cellsPow : Tryd.prog.cellsOf 120 = 20 := by kernel_rfl
theorem cellsU64 : Tryd.prog.cellsOf 107 = 1 := by kernel_rfl
theorem cellsB : Tryd.prog.cellsOf 4 = 1 := by kernel_rfl
theorem cellsRy : Tryd.prog.cellsOf 44 = 3 := by kernel_rfl

theorem rowsAt : ∀ k : Nat, k < 16 → ∃ (s : DataW Unit) (L : List (DataW Unit)), Rows.laid_loop_example_kilndeed_impl_rows = .agg L ∧ L[k]? = some (.agg [s, .lit (.int .i64 (mostText k)), .lit (.int .i64 (mostN k)), .lit (.int .i64 (takesOf k)), .lit (.int .i64 (putsOf k))]) := by
  intro k hk
  rcases (show k = 0 ∨ k = 1 ∨ k = 2 ∨ k = 3 ∨ k = 4 ∨ k = 5 ∨ k = 6 ∨ k = 7 ∨ k = 8 ∨ k = 9 ∨ k = 10 ∨ k = 11 ∨ k = 12 ∨ k = 13 ∨ k = 14 ∨ k = 15 by omega) with rfl | rfl | rfl | rfl | rfl | rfl | rfl | rfl | rfl | rfl | rfl | rfl | rfl | rfl | rfl | rfl
  all_goals exact ⟨_, _, rfl, rfl⟩
theorem at_of_slice {cs : List Value} {o j : Nat} {v : Value} (hj : j < 5) (h : (((cs.drop o).take 5).drop j).take 1 = [v]) : cs[o + j]? = some v := by
  have h2 : ((((cs.drop o).take 5).drop j).take 1)[0]? = some v := by rw [h]; rfl
  simpa [List.getElem?_take, hj] using h2
set_option maxRecDepth 100000 in
theorem rows_of {W : World} {enc : TypeId × Value → Unit} {sp : Nat → Bool} {held : Bool} {fuel : Nat} {cs0 : Array Value} {p : List MemPlace} (hv0 : W.var? Tryd.prog rowsName = some cs0)
    (hd0 : DataW.trod enc Tryd.prog W 0 sp held fuel 87 cs0.toList = some (Rows.laid_loop_example_kilndeed_impl_rows, p)) : Tab W ∧ Tab2 W := by
  obtain ⟨xs, m, _, hx, _, hn, hel⟩ := DataW.trod_array Tryd.underlying87 hd0
  rw [cells57] at hel
  have key : ∀ k, k < 16 → cs0.toList[k * 5 + 1]? = some (.int .i64 (mostText k)) ∧ cs0.toList[k * 5 + 2]? = some (.int .i64 (mostN k)) ∧ cs0.toList[k * 5 + 3]? = some (.int .i64 (takesOf k)) ∧ cs0.toList[k * 5 + 4]? = some (.int .i64 (putsOf k)) := by
    intro k hk
    obtain ⟨s, L, hL, hLk⟩ := rowsAt k hk
    rw [hL] at hx
    simp only [Prod.mk.injEq, DataW.agg.injEq] at hx
    have hk2 := hel k hk
    rw [hx.1, List.getElem?_map] at hLk
    obtain ⟨y, hy, hy1⟩ := Option.map_eq_some_iff.1 hLk
    rw [hy] at hk2
    obtain ⟨ys, n, _, hys, _, _, hf⟩ := DataW.trod_struct Tryd.underlying86 hk2
    have hz : ys.map (·.1) = [s, .lit (.int .i64 (mostText k)), .lit (.int .i64 (mostN k)), .lit (.int .i64 (takesOf k)), .lit (.int .i64 (putsOf k))] := by
      rw [hys] at hy1
      simpa using hy1
    have h1 : DataW.trod _ Tryd.prog W 0 _ _ n 3 ((((cs0.toList.drop (k * 5)).take 5).drop 1).take (Tryd.prog.cellsOf 3)) = ys[1]? := hf 1 _ rfl
    have h2 : DataW.trod _ Tryd.prog W 0 _ _ n 3 ((((cs0.toList.drop (k * 5)).take 5).drop 2).take (Tryd.prog.cellsOf 3)) = ys[2]? := hf 2 _ rfl
    have h3 : DataW.trod _ Tryd.prog W 0 _ _ n 3 ((((cs0.toList.drop (k * 5)).take 5).drop 3).take (Tryd.prog.cellsOf 3)) = ys[3]? := hf 3 _ rfl
    have h4 : DataW.trod _ Tryd.prog W 0 _ _ n 3 ((((cs0.toList.drop (k * 5)).take 5).drop 4).take (Tryd.prog.cellsOf 3)) = ys[4]? := hf 4 _ rfl
    rw [cells3] at h1 h2 h3 h4
    match ys, hz with
    | [y0, y1, y2, y3, y4], hz =>
      simp only [List.map_cons, List.map_nil, List.cons.injEq, and_true] at hz
      obtain ⟨z1, e1, x1, _⟩ := DataW.trod_int Tryd.underlying3 (show DataW.trod _ Tryd.prog W 0 _ _ n 3 _ = some y1 from h1)
      obtain ⟨z2, e2, x2, _⟩ := DataW.trod_int Tryd.underlying3 (show DataW.trod _ Tryd.prog W 0 _ _ n 3 _ = some y2 from h2)
      obtain ⟨z3, e3, x3, _⟩ := DataW.trod_int Tryd.underlying3 (show DataW.trod _ Tryd.prog W 0 _ _ n 3 _ = some y3 from h3)
      obtain ⟨z4, e4, x4, _⟩ := DataW.trod_int Tryd.underlying3 (show DataW.trod _ Tryd.prog W 0 _ _ n 3 _ = some y4 from h4)
      have w1 : z1 = mostText k := by have := hz.2.1; rw [x1] at this; simpa using this
      have w2 : z2 = mostN k := by have := hz.2.2.1; rw [x2] at this; simpa using this
      have w3 : z3 = takesOf k := by have := hz.2.2.2.1; rw [x3] at this; simpa using this
      have w4 : z4 = putsOf k := by have := hz.2.2.2.2; rw [x4] at this; simpa using this
      rw [w1] at e1
      rw [w2] at e2
      rw [w3] at e3
      rw [w4] at e4
      exact ⟨at_of_slice (by omega) e1, at_of_slice (by omega) e2, at_of_slice (by omega) e3, at_of_slice (by omega) e4⟩
  have hlt : 0 < W.heap.size := by
    have hc := World.var?_cell gRows hv0 1
    have := (key 0 (by omega)).1
    simp only [Nat.zero_mul, Nat.zero_add, Array.getElem?_toList] at this
    rw [this] at hc
    rcases Nat.lt_or_ge 0 W.heap.size with h' | h'
    · exact h'
    · simp [World.cell?, Array.getElem?_eq_none h'] at hc
  refine ⟨⟨hlt, fun k hk => ?_⟩, ⟨hlt, fun k hk => ?_⟩⟩
  · have c1 := World.var?_cell gRows hv0 (k * 5 + 1)
    have c2 := World.var?_cell gRows hv0 (k * 5 + 2)
    have hk2 := key k hk
    simp only [Array.getElem?_toList] at hk2
    exact ⟨c1.trans hk2.1, c2.trans hk2.2.1⟩
  · have c3 := World.var?_cell gRows hv0 (k * 5 + 3)
    have c4 := World.var?_cell gRows hv0 (k * 5 + 4)
    have hk2 := key k hk
    simp only [Array.getElem?_toList] at hk2
    exact ⟨c3.trans hk2.2.2.1, c4.trans hk2.2.2.2⟩
theorem pow_of {W : World} {enc : TypeId × Value → Unit} {sp : Nat → Bool} {held : Bool} {fuel : Nat} {cs : Array Value} {p : List MemPlace} (hv : W.var? Tryd.prog "internal/strconv.uint64pow10" = some cs)
    (hd : DataW.trod enc Tryd.prog W 0 sp held fuel 120 cs.toList = some (Rows.laid_internal_strconv_uint64pow10, p)) : Pow W := by
  have e := Lib.cells_of_tab (k := .u64) (zs := Lib.pow10Tab) Tryd.underlying120 Tryd.underlying107 cellsU64 cellsPow hd
  show W.var? Tryd.prog _ = some _
  rw [hv, ← e]
/-- WHAT THE ROW's LIST GIVES. -/
theorem tables {W : World} (h : laidMetH Tryd.prog Rows.fnExactNextRow.laid W) : Tab W ∧ Tab2 W ∧ Pow W := by
  rw [MakeChecks.laidMetH_plain _ _ _ (by kernel_rfl)] at h
  obtain ⟨ps, ⟨g0, t0, cs0, f0, p0, q0, hg0, ht0, hv0, hd0, ⟨g1, t1, cs1, f1, p1, q1, hg1, ht1, hv1, hd1, ⟨g2, t2, cs2, f2, p2, q2, hg2, ht2, hv2, hd2, ⟨g3, t3, cs3, f3, p3, q3, hg3, ht3, hv3, hd3, ⟨g4, t4, cs4, f4, p4, q4, hg4, ht4, hv4, hd4, _, _⟩, _⟩, _⟩, _⟩, _⟩, _, _⟩ := h
  obtain rfl := Option.some.inj (gPow.symm.trans hg2)
  obtain rfl := Option.some.inj (tPow.symm.trans ht2)
  obtain rfl := Option.some.inj (gRows.symm.trans hg4)
  obtain rfl := Option.some.inj (tRows.symm.trans ht4)
  exact ⟨(rows_of hv4 hd4).1, (rows_of hv4 hd4).2, pow_of hv2 hd2⟩

set_option maxRecDepth 100000 in
theorem open_reply {H : Type} {enc : TypeId × Value → H} {w : World} {base : Nat} {spare : Nat → Bool} {held : Bool} {fuel : Nat} {cs : List Value} {x : DataW H × List MemPlace}
    (h : DataW.trod enc Tryd.prog w base spare held fuel 44 cs = some x) : ∃ i : Reply, cs = [.bool i.has, .int .i64 i.code, .string i.text] ∧ i.text.size ≤ maxLen := by
  obtain ⟨y0, y1, y2, n, _, hl, h0, h1, h2⟩ := trod_struct3 Tryd.underlying44 h
  rw [cellsRy] at hl
  match cs, hl with
  | [a, b, c], _ =>
    simp only [cells3, cells9, cellsB] at h0 h1 h2
    obtain ⟨q, e0, _⟩ := DataW.trod_bool Tryd.underlying4 h0
    obtain ⟨c, e1, _, _⟩ := DataW.trod_int Tryd.underlying3 h1
    obtain ⟨s, e2, _, hs⟩ := DataW.trod_string Tryd.underlying9 h2
    simp at e0 e1 e2
    exact ⟨⟨q, c, s⟩, by rw [e0, e1, e2], hs⟩
set_option maxRecDepth 100000 in
theorem open_replies {H : Type} {enc : TypeId × Value → H} {W : World} {base : Nat} {v : Value} {d : DataW H} {p : List MemPlace} (hv : Value.okWide Tryd.prog W .any base 25 v)
    (h : DataW.Trod enc Tryd.prog W 0 (fun _ => true) true 25 v d p) :
    ∃ a n cap, ∃ f : Nat → Reply, v = .slice a n cap ∧ (n : Int) ≤ 9223372036854775807 ∧ SlReply W a n f ∧ ∀ i, i < n → (f i).text.size ≤ maxLen := by
  obtain ⟨a0, n0, c0, rfl⟩ := okWide_slice Tryd.underlying25 hv
  obtain ⟨fuel, hf⟩ := h
  rcases open_slice Tryd.underlying25 hf with ⟨hc, _⟩ | ⟨a, len, cap, m, k, D, Pl, hc, hb, hl, hm, hmm, _, hel⟩
  · simp [Value.cells] at hc
    obtain ⟨rfl, rfl, rfl⟩ := hc
    exact ⟨none, 0, 0, fun _ => ⟨false, 0, ⟨#[]⟩⟩, rfl, by omega, .inl rfl, fun i hi => absurd hi (Nat.not_lt_zero _)⟩
  · simp [Value.cells] at hc
    obtain ⟨rfl, rfl, rfl⟩ := hc
    have hmm' : m = c0 := by simpa using hmm
    subst hmm'
    have hlen : (n0 : Int) ≤ 9223372036854775807 := by unfold maxLen at hm; omega
    have each : ∀ i, i < n0 → ∃ x : Reply, (W.cell? (a.add (i * 3)) = some (.bool x.has) ∧ W.cell? (a.add (i * 3 + 1)) = some (.int .i64 x.code) ∧ W.cell? (a.add (i * 3 + 2)) = some (.string x.text)) ∧ x.text.size ≤ maxLen := by
      intro i hi
      obtain ⟨cs', h1, h2⟩ := hel i (by omega)
      rw [cellsRy] at h1
      obtain ⟨v0, v1, v2, rfl, g0, g1, g2⟩ := cells?_three h1
      obtain ⟨x, ex, hs⟩ := open_reply h2
      simp only [List.cons.injEq, and_true] at ex
      obtain ⟨rfl, rfl, rfl⟩ := ex
      rw [add_add] at g0 g1 g2
      exact ⟨x, ⟨g0, g1, g2⟩, hs⟩
    by_cases hz : n0 = 0
    · subst hz
      exact ⟨_, 0, m, fun _ => ⟨false, 0, ⟨#[]⟩⟩, rfl, by omega, .inl rfl, fun i hi => absurd hi (Nat.not_lt_zero _)⟩
    · have : Inhabited Reply := ⟨⟨false, 0, ⟨#[]⟩⟩⟩
      obtain ⟨f, hf⟩ := choose_lt each
      obtain ⟨b, off, spot⟩ := a
      have hspot : spot = none := by simpa [Addr.add] using World.cell?_spot (hf 0 (by omega)).1.1
      subst hspot
      have hrow : ∀ i, i < n0 → AtReply W b off i (f i) := fun i hi => by
        obtain ⟨⟨g0, g1, g2⟩, _⟩ := hf i hi
        rw [add_plain] at g0 g1 g2
        exact ⟨g0, g1, g2⟩
      refine ⟨_, n0, m, f, rfl, hlen, .inr ⟨b, off, rfl, ?_, hrow⟩, fun i hi => (hf i hi).2⟩
      have hc0 := (hrow 0 (by omega)).1
      rcases Nat.lt_or_ge b W.heap.size with h' | h'
      · exact h'
      · simp [World.cell?, Array.getElem?_eq_none h'] at hc0

end Go.Proofs.YtfhdecheaeoopaaDoor.Nx
