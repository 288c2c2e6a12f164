import Derived.Test.YtkophfgkcijjkaaGreatDoorZEdLaw
import Derived.Test.YtkophfgkcijjkaaGreatDoorZEdFacts
import Derived.Test.YtkophfgkcijjkaaGreatDoorCards
import Derived.ProofKit
import Derived.OpenShut
import Derived.MakeChecks
import Derived.Deep.Slices
import Derived.Deep.Strs
import Derived.Test.YtkophfgkcijjkaaGreatDoorTie
import Derived.Deep.DeepHandedRow
import Derived.Lib.LaidTab
namespace Go.Proofs.YtkophfgkcijjkaaGreatDoor.Edc
open Go.ChangeShapes Go.WideShapes Go.ChangeAt Go.RowKit Go.Deep Go.Proofs.YtkophfgkcijjkaaGreatDoor.Vp
abbrev rowsName : String := Rows.fnEditsSpec.vars.headD default
theorem cells3 : Tryz.prog.cellsOf 3 = 1 := by kernel_rfl
theorem cells57 : Tryz.prog.cellsOf 250 = 5 := by kernel_rfl
theorem gRows : Tryz.prog.globalNamed rowsName = some 0 := by kernel_rfl
theorem tRows : (Tryz.prog.globals[0]?).map (·.type) = some 251 := by kernel_rfl
theorem tPow : (Tryz.prog.globals[2]?).map (·.type) = some 349 := by kernel_rfl
theorem cellsPow : Tryz.prog.cellsOf 349 = 20 := by kernel_rfl
theorem cellsU64 : Tryz.prog.cellsOf 312 = 1 := by kernel_rfl
theorem rowsAt : ∀ k : Nat, k < 16 → ∃ (s : DataW Unit) (L : List (DataW Unit)), Rows.laid_loop_example_kilndeed_impl_rows = .agg L ∧ L[k]? = some (.agg [s, .lit (.int .i64 (mostText k)), .lit (.int .i64 (mostN k)), .lit (.int .i64 (takesOf k)), .lit (.int .i64 (putsOf k))]) := by
  intro k hk
  rcases (show k = 0 ∨ k = 1 ∨ k = 2 ∨ k = 3 ∨ k = 4 ∨ k = 5 ∨ k = 6 ∨ k = 7 ∨ k = 8 ∨ k = 9 ∨ k = 10 ∨ k = 11 ∨ k = 12 ∨ k = 13 ∨ k = 14 ∨ k = 15 by omega) with rfl | rfl | rfl | rfl | rfl | rfl | rfl | rfl | rfl | rfl | rfl | rfl | rfl | rfl | rfl | rfl
  all_goals exact ⟨_, _, rfl, rfl⟩
theorem at_of_slice {cs : List Value} {o j : Nat} {v : Value} (hj : j < 5) (h : (((cs.drop o).take 5).drop j).take 1 = [v]) : cs[o + j]? = some v := by
  have h2 : ((((cs.drop o).take 5).drop j).take 1)[0]? = some v := by rw [h]; rfl
  simpa [List.getElem?_take, hj] using h2
set_option maxRecDepth 100000 in
theorem rows_of {W : World} {enc : TypeId × Value → Unit} {sp : Nat → Bool} {held : Bool} {fuel : Nat} {cs0 : Array Value} {p : List MemPlace} (hv0 : W.var? Tryz.prog rowsName = some cs0)
    (hd0 : DataW.trod enc Tryz.prog W 0 sp held fuel 251 cs0.toList = some (Rows.laid_loop_example_kilndeed_impl_rows, p)) : Tab W ∧ Tab2 W := by
  obtain ⟨xs, m, _, hx, _, hn, hel⟩ := DataW.trod_array Tryz.underlying251 hd0
  rw [cells57] at hel
  have key : ∀ k, k < 16 → cs0.toList[k * 5 + 1]? = some (.int .i64 (mostText k)) ∧ cs0.toList[k * 5 + 2]? = some (.int .i64 (mostN k)) ∧ cs0.toList[k * 5 + 3]? = some (.int .i64 (takesOf k)) ∧ cs0.toList[k * 5 + 4]? = some (.int .i64 (putsOf k)) := by
    intro k hk
    obtain ⟨s, L, hL, hLk⟩ := rowsAt k hk
    rw [hL] at hx
    simp only [Prod.mk.injEq, DataW.agg.injEq] at hx
    have hk2 := hel k hk
    rw [hx.1, List.getElem?_map] at hLk
    obtain ⟨y, hy, hy1⟩ := Option.map_eq_some_iff.1 hLk
    rw [hy] at hk2
    obtain ⟨ys, n, _, hys, _, _, hf⟩ := DataW.trod_struct Tryz.underlying250 hk2
    have hz : ys.map (·.1) = [s, .lit (.int .i64 (mostText k)), .lit (.int .i64 (mostN k)), .lit (.int .i64 (takesOf k)), .lit (.int .i64 (putsOf k))] := by
      rw [hys] at hy1
      simpa using hy1
    have h1 : DataW.trod _ Tryz.prog W 0 _ _ n 3 ((((cs0.toList.drop (k * 5)).take 5).drop 1).take (Tryz.prog.cellsOf 3)) = ys[1]? := hf 1 _ rfl
    have h2 : DataW.trod _ Tryz.prog W 0 _ _ n 3 ((((cs0.toList.drop (k * 5)).take 5).drop 2).take (Tryz.prog.cellsOf 3)) = ys[2]? := hf 2 _ rfl
    have h3 : DataW.trod _ Tryz.prog W 0 _ _ n 3 ((((cs0.toList.drop (k * 5)).take 5).drop 3).take (Tryz.prog.cellsOf 3)) = ys[3]? := hf 3 _ rfl
    have h4 : DataW.trod _ Tryz.prog W 0 _ _ n 3 ((((cs0.toList.drop (k * 5)).take 5).drop 4).take (Tryz.prog.cellsOf 3)) = ys[4]? := hf 4 _ rfl
    rw [cells3] at h1 h2 h3 h4
    match ys, hz with
    | [y0, y1, y2, y3, y4], hz =>
      simp only [List.map_cons, List.map_nil, List.cons.injEq, and_true] at hz
      obtain ⟨z1, e1, x1, _⟩ := DataW.trod_int Tryz.underlying3 (show DataW.trod _ Tryz.prog W 0 _ _ n 3 _ = some y1 from h1)
      obtain ⟨z2, e2, x2, _⟩ := DataW.trod_int Tryz.underlying3 (show DataW.trod _ Tryz.prog W 0 _ _ n 3 _ = some y2 from h2)
      obtain ⟨z3, e3, x3, _⟩ := DataW.trod_int Tryz.underlying3 (show DataW.trod _ Tryz.prog W 0 _ _ n 3 _ = some y3 from h3)
      obtain ⟨z4, e4, x4, _⟩ := DataW.trod_int Tryz.underlying3 (show DataW.trod _ Tryz.prog W 0 _ _ n 3 _ = some y4 from h4)
      have w1 : z1 = mostText k := by have := hz.2.1; rw [x1] at this; simpa using this
      have w2 : z2 = mostN k := by have := hz.2.2.1; rw [x2] at this; simpa using this
      have w3 : z3 = takesOf k := by have := hz.2.2.2.1; rw [x3] at this; simpa using this
      have w4 : z4 = putsOf k := by have := hz.2.2.2.2; rw [x4] at this; simpa using this
      rw [w1] at e1
      rw [w2] at e2
      rw [w3] at e3
      rw [w4] at e4
      exact ⟨at_of_slice (by omega) e1, at_of_slice (by omega) e2, at_of_slice (by omega) e3, at_of_slice (by omega) e4⟩
  have hlt : 0 < W.heap.size := by
    have hc := World.var?_cell gRows hv0 1
    have := (key 0 (by omega)).1
    simp only [Nat.zero_mul, Nat.zero_add, Array.getElem?_toList] at this
    rw [this] at hc
    rcases Nat.lt_or_ge 0 W.heap.size with h' | h'
    · exact h'
    · simp [World.cell?, Array.getElem?_eq_none h'] at hc
  refine ⟨⟨hlt, fun k hk => ?_⟩, ⟨hlt, fun k hk => ?_⟩⟩
  · have c1 := World.var?_cell gRows hv0 (k * 5 + 1)
    have c2 := World.var?_cell gRows hv0 (k * 5 + 2)
    have hk2 := key k hk
    simp only [Array.getElem?_toList] at hk2
    exact ⟨c1.trans hk2.1, c2.trans hk2.2.1⟩
  · have c3 := World.var?_cell gRows hv0 (k * 5 + 3)
    have c4 := World.var?_cell gRows hv0 (k * 5 + 4)
    have hk2 := key k hk
    simp only [Array.getElem?_toList] at hk2
    exact ⟨c3.trans hk2.2.2.1, c4.trans hk2.2.2.2⟩
theorem pow_of {W : World} {enc : TypeId × Value → Unit} {sp : Nat → Bool} {held : Bool} {fuel : Nat} {cs : Array Value} {p : List MemPlace} (hv : W.var? Tryz.prog "internal/strconv.uint64pow10" = some cs)
    (hd : DataW.trod enc Tryz.prog W 0 sp held fuel 349 cs.toList = some (Rows.laid_internal_strconv_uint64pow10, p)) : Pow W := by
  have e := Lib.cells_of_tab (k := .u64) (zs := Lib.pow10Tab) Tryz.underlying349 Tryz.underlying312 cellsU64 cellsPow hd
  show W.var? Tryz.prog _ = some _
  rw [hv, ← e]
theorem tables {W : World} (h : laidMetH Tryz.prog Rows.fnEditsRow.laid W) : Tab W ∧ Tab2 W ∧ Pow W := by
  rw [MakeChecks.laidMetH_plain _ _ _ (by kernel_rfl)] at h
  obtain ⟨ps, ⟨g0, t0, cs0, f0, p0, q0, hg0, ht0, hv0, hd0, ⟨g1, t1, cs1, f1, p1, q1, hg1, ht1, hv1, hd1, ⟨g2, t2, cs2, f2, p2, q2, hg2, ht2, hv2, hd2, ⟨g3, t3, cs3, f3, p3, q3, hg3, ht3, hv3, hd3, ⟨g4, t4, cs4, f4, p4, q4, hg4, ht4, hv4, hd4, _, _⟩, _⟩, _⟩, _⟩, _⟩, _, _⟩ := h
  obtain rfl := Option.some.inj (gPow.symm.trans hg2)
  obtain rfl := Option.some.inj (tPow.symm.trans ht2)
  obtain rfl := Option.some.inj (gRows.symm.trans hg4)
  obtain rfl := Option.some.inj (tRows.symm.trans ht4)
  exact ⟨(rows_of hv4 hd4).1, (rows_of hv4 hd4).2, pow_of hv2 hd2⟩
theorem own : ownKnob Tryz.prog.godebug = none := by kernel_rfl
theorem laidOut : laidOutB Tryz.prog = true := by kernel_rfl
theorem cellsU8 : Tryz.prog.cellsOf 5 = 1 := by kernel_rfl
set_option maxRecDepth 100000 in
theorem open_bytes {H : Type} {enc : TypeId × Value → H} {W : World} {base : Nat} {v : Value} {d : DataW H} {p : List MemPlace} (hv : Value.okWide Tryz.prog W .any base 22 v)
    (h : DataW.Trod enc Tryz.prog W 0 (fun _ => true) true 22 v d p) :
    ∃ a n cap, v = .slice a n cap ∧ (n : Int) ≤ 9223372036854775807 ∧ n ≤ cap ∧ ByteSl W a n := by
  obtain ⟨a0, n0, c0, rfl⟩ := okWide_slice Tryz.underlying22 hv
  obtain ⟨fuel, hf⟩ := h
  rcases open_slice1 Tryz.underlying22 cellsU8 hf with ⟨hc, _⟩ | ⟨a, len, cap, m, k, V, D, Pl, hc, hb, hl, hm, hmm, _, hel⟩
  · simp [Value.cells] at hc
    obtain ⟨rfl, rfl, rfl⟩ := hc
    exact ⟨none, 0, 0, rfl, by omega, by omega, .inl rfl⟩
  · simp [Value.cells] at hc
    obtain ⟨rfl, rfl, rfl⟩ := hc
    have hmm' : m = c0 := by simpa using hmm
    subst hmm'
    have hlen : (n0 : Int) ≤ 9223372036854775807 := by unfold maxLen at hm; omega
    refine ⟨_, n0, m, rfl, hlen, hl, ?_⟩
    by_cases hz : n0 = 0
    · exact .inl hz
    · obtain ⟨b, off, spot⟩ := a
      have hspot : spot = none := by simpa [Addr.add] using World.cell?_spot (hel 0 (by omega)).1
      subst hspot
      refine .inr ⟨b, off, rfl, ?_, fun i hi => ?_⟩
      · have := World.block_lt_of_cell? W _ (hel 0 (by omega)).1
        simpa [Addr.add] using this
      · obtain ⟨hcell, ht⟩ := hel i (by omega)
        obtain ⟨z, e0, _, hw⟩ := DataW.trod_int Tryz.underlying5 ht
        rw [add_plain] at hcell
        simp at e0
        rw [e0] at hcell
        have hr : 0 ≤ z ∧ z < 256 := by
          have hw2 : (decide (IntKind.u8.min ≤ z) && decide (z ≤ IntKind.u8.max)) = true := hw
          simp only [Bool.and_eq_true, decide_eq_true_eq] at hw2
          have m0 : IntKind.u8.min = 0 := by decide
          have m1 : IntKind.u8.max = 255 := by decide
          rw [m0, m1] at hw2
          omega
        obtain ⟨u, rfl⟩ := Int.eq_ofNat_of_zero_le hr.1
        exact ⟨u, by omega, hcell⟩
set_option maxRecDepth 100000 in
theorem contract (H : Type) (enc : TypeId × Value → H) (W : World) (base : Nat) (args : Array Value) (ds gs : List (DataW H)) (before : List MemPlace)
    (hval : ∀ (j : Nat) t v, Tryz.f3.params[j]? = some t → args[j]? = some v → Value.okWide Tryz.prog W .any base t v)
    (hW : DataW.Whole enc Tryz.prog Tryz.f3.params.toList Rows.fnEditsSpec.vars false W args.toList ds gs before) (hL : laidMetH Tryz.prog Rows.fnEditsRow.laid W) :
    Calls Tryz.prog 3 args W fun e W' => ∃ v, e = .returned v ∧ Rows.fnEditsSpec.post enc Tryz.prog Tryz.f3 false true false false W args v W' := by
  have hW' := hW
  obtain ⟨p, q, hA0, hV, rfl, hfz, hnd⟩ := hW
  have hA : DataW.TrodAll enc Tryz.prog W 0 (fun _ => true) true Tryz.f3.params.toList args.toList ds p := hA0
  rw [Tryz.params3] at hA hval
  obtain ⟨v0, vs0, d0, ds0, p0, q0, hargs, rfl, rfl, h0, r0⟩ := trodAll_cons hA
  obtain ⟨v1, vs1, d1, ds1, p1, q1, rfl, rfl, rfl, h1, r1⟩ := trodAll_cons r0
  obtain ⟨rfl, rfl, rfl⟩ := trodAll_nil r1
  obtain rfl : args = #[v0, v1] := by cases args; simp_all
  obtain ⟨g, t, cs, fuel, dg, pg, rfl, hg, ht, hv, hd, rfl⟩ := trodVars_one hV
  have hlt := hW'.lt
  obtain ⟨a, n, cap, rfl, hn, hc, hS⟩ := open_bytes (hval 0 22 v0 rfl rfl) h0
  obtain ⟨b, m, cap2, rfl, hm, hc2, hS2⟩ := open_bytes (hval 1 22 v1 rfl rfl) h1
  obtain ⟨T1, T2, T3⟩ := tables hL
  refine (law_edits a n cap b m cap2 W hn hm hc hc2 hS hS2 T1 T2 T3).mono fun e W' ⟨he, hB⟩ => ?_
  subst he
  refine ⟨_, rfl, _, _, _, [], p0 ++ (p1 ++ []), MemPlace.row ⟨g, 0, none⟩ cs.size ++ pg, hW', ?_, ?_, ?_, hB.frame _, fun h => by cases h⟩
  · exact trodAll_cons_mk (shut_bool Tryz.underlying4 _) trodAll_mk0
  · exact trodAll_cons_mk (Below.trod laidOut (by kernel_rfl) (of_decide_eq_true (by kernel_rfl)) h0 hB (fun x hx => hlt x (by simp [hx]))) (trodAll_cons_mk (Below.trod laidOut (by kernel_rfl) (of_decide_eq_true (by kernel_rfl)) h1 hB (fun x hx => hlt x (by simp [hx]))) trodAll_mk0)
  · have e : t = 251 := by rw [Option.some.inj (hg.symm.trans gRows)] at ht; exact Option.some.inj (ht.symm.trans tRows)
    subst e
    have hp : ∀ x ∈ pg, x.block < W.heap.size := fun x hx => hlt x (by simp [hx])
    exact trodVars_mk1 hg ht (Joins.var_stays hg hv hB (Nat.le_refl _))
      (DataW.trod_stays (kids_book laidOut (by kernel_rfl)) (book_sized (by kernel_rfl)) (fun h => by cases h) ⟨of_decide_eq_true (by kernel_rfl), book_self 251⟩ hd (fun x hx => hB.same (hp x hx)) (fun x hx => by simpa using hp x hx))
def put (cs : Array Value) : Obj → Obj
  | .cells _ t frozen => .cells cs t frozen
  | o => o
def firstCells : Array Value := (Go.Pinned.utf8FirstZ.map (fun z : Nat => Value.int .u8 (z : Int))).toArray
abbrev noArgs : Array Value := #[.slice none 0 0, .slice none 0 0]
set_option maxRecDepth 100000 in
theorem lifted (os : Os) (started : os.Started) (H : Type) (enc : TypeId × Value → H) (F : Stop.Interp) :
    ReturnsInHanded {} Tryz.checked os 3 .any ((OpenSpec.ofChange Rows.fnEditsSpec).preRow enc Tryz.prog Tryz.f3 Rows.fnEditsRow.domain false Rows.fnEditsRow.laid) (((OpenSpec.ofChange Rows.fnEditsSpec).at F).post enc Tryz.prog Tryz.f3 false true false false) := by
  refine returnsInHanded_of_row (C := Tryz.checked) (s := OpenSpec.ofChange Rows.fnEditsSpec) own started (by kernel_rfl) Tryz.func3
    (witness_row_at (enc := enc) (C := Tryz.checked) false
      ({ World.holding Tryz.prog os ⟨#[], #[], []⟩ with heap := Array.modify (Array.modify (Array.modify (Array.modify (Array.modify (Array.modify (World.holding Tryz.prog os ⟨#[], #[], []⟩).heap 0 (put #[.string ⟨#[]⟩, .int .i64 0, .int .i64 0, .int .i64 0, .int .i64 0, .string ⟨#[108, 105, 116]⟩, .int .i64 2000, .int .i64 0, .int .i64 0, .int .i64 1, .string ⟨#[99, 97, 116]⟩, .int .i64 0, .int .i64 0, .int .i64 2, .int .i64 1, .string ⟨#[99, 117, 116]⟩, .int .i64 0, .int .i64 2000, .int .i64 1, .int .i64 1, .string ⟨#[114, 101, 115, 116]⟩, .int .i64 0, .int .i64 2000, .int .i64 1, .int .i64 1, .string ⟨#[119, 111, 114, 100]⟩, .int .i64 0, .int .i64 2000, .int .i64 1, .int .i64 1, .string ⟨#[115, 97, 109, 101]⟩, .int .i64 0, .int .i64 0, .int .i64 2, .int .i64 1, .string ⟨#[100, 117, 112]⟩, .int .i64 0, .int .i64 0, .int .i64 1, .int .i64 2, .string ⟨#[115, 119, 97, 112]⟩, .int .i64 0, .int .i64 0, .int .i64 2, .int .i64 2, .string ⟨#[100, 114, 111, 112]⟩, .int .i64 0, .int .i64 0, .int .i64 1, .int .i64 0, .string ⟨#[106, 117, 109, 112]⟩, .int .i64 0, .int .i64 200, .int .i64 0, .int .i64 0, .string ⟨#[117, 110, 108, 101, 115, 115]⟩, .int .i64 0, .int .i64 200, .int .i64 1, .int .i64 0, .string ⟨#[97, 115, 107]⟩, .int .i64 0, .int .i64 0, .int .i64 1, .int .i64 1, .string ⟨#[104, 97, 115]⟩, .int .i64 0, .int .i64 0, .int .i64 1, .int .i64 1, .string ⟨#[102, 97, 105, 108]⟩, .int .i64 0, .int .i64 0, .int .i64 1, .int .i64 0, .string ⟨#[101, 110, 100]⟩, .int .i64 0, .int .i64 0, .int .i64 1, .int .i64 0])) 2 (put #[.int .u64 1, .int .u64 10, .int .u64 100, .int .u64 1000, .int .u64 10000, .int .u64 100000, .int .u64 1000000, .int .u64 10000000, .int .u64 100000000, .int .u64 1000000000, .int .u64 10000000000, .int .u64 100000000000, .int .u64 1000000000000, .int .u64 10000000000000, .int .u64 100000000000000, .int .u64 1000000000000000, .int .u64 10000000000000000, .int .u64 100000000000000000, .int .u64 1000000000000000000, .int .u64 10000000000000000000])) 5 (put #[.int .u8 0, .int .u8 1, .int .u8 28, .int .u8 2, .int .u8 29, .int .u8 14, .int .u8 24, .int .u8 3, .int .u8 30, .int .u8 22, .int .u8 20, .int .u8 15, .int .u8 25, .int .u8 17, .int .u8 4, .int .u8 8, .int .u8 31, .int .u8 27, .int .u8 13, .int .u8 23, .int .u8 21, .int .u8 19, .int .u8 16, .int .u8 7, .int .u8 26, .int .u8 12, .int .u8 18, .int .u8 6, .int .u8 11, .int .u8 5, .int .u8 10, .int .u8 9])) 6 (put #[.int .u8 0, .int .u8 1, .int .u8 56, .int .u8 2, .int .u8 57, .int .u8 49, .int .u8 28, .int .u8 3, .int .u8 61, .int .u8 58, .int .u8 42, .int .u8 50, .int .u8 38, .int .u8 29, .int .u8 17, .int .u8 4, .int .u8 62, .int .u8 47, .int .u8 59, .int .u8 36, .int .u8 45, .int .u8 43, .int .u8 51, .int .u8 22, .int .u8 53, .int .u8 39, .int .u8 33, .int .u8 30, .int .u8 24, .int .u8 18, .int .u8 12, .int .u8 5, .int .u8 63, .int .u8 55, .int .u8 48, .int .u8 27, .int .u8 60, .int .u8 41, .int .u8 37, .int .u8 16, .int .u8 46, .int .u8 35, .int .u8 44, .int .u8 21, .int .u8 52, .int .u8 32, .int .u8 23, .int .u8 11, .int .u8 54, .int .u8 26, .int .u8 40, .int .u8 15, .int .u8 34, .int .u8 20, .int .u8 31, .int .u8 10, .int .u8 25, .int .u8 14, .int .u8 19, .int .u8 9, .int .u8 13, .int .u8 8, .int .u8 7, .int .u8 6])) 4 (put #[.int .u8 128, .int .u8 191, .int .u8 160, .int .u8 191, .int .u8 128, .int .u8 159, .int .u8 144, .int .u8 191, .int .u8 128, .int .u8 143, .int .u8 0, .int .u8 0, .int .u8 0, .int .u8 0, .int .u8 0, .int .u8 0, .int .u8 0, .int .u8 0, .int .u8 0, .int .u8 0, .int .u8 0, .int .u8 0, .int .u8 0, .int .u8 0, .int .u8 0, .int .u8 0, .int .u8 0, .int .u8 0, .int .u8 0, .int .u8 0, .int .u8 0, .int .u8 0])) 3 (put firstCells) } : World)
      noArgs rfl (by kernel_rfl) (by kernel_rfl) (by kernel_rfl)
      (OpenSpec.preRow_of_cond 8 (x := ([.nil, .nil], [Rows.laid_loop_example_kilndeed_impl_rows], MemPlace.row ⟨0, 0, none⟩ 80)) (by kernel_rfl) (by kernel_rfl) (fun k hk => by cases hk) (by kernel_rfl) (laidMet_of_run' 8 (by kernel_rfl) (by kernel_rfl)))) ?_
  intro W base args ds gs before hval hW _ _ _ hL _ _
  exact contract H enc W base args ds gs before hval hW hL
theorem said : Rows.FnEditsSaid :=
  OpenClaim.holds_of_cond 3 Tryz.f3 rfl rfl rfl rfl rfl rfl rfl ⟨rfl, rfl, rfl, rfl, rfl⟩ rfl rfl rfl rfl rfl (by kernel_rfl) Tryz.func3 facts
    (of_decide_eq_true (by kernel_rfl)) (by unfold Func.isWrapper; first | (rw [if_pos (by decide +kernel)]; kernel_rfl) | (rw [if_neg (by decide +kernel)]; exact ⟨rfl, rfl⟩))
    (fun os started H enc _ F => by rw [OpenClaim.pre_eq_preRow]; exact lifted os started H enc F)
theorem plain (f : FuncId) (fn : Func) (hf : Tryz.pinned.checked.prog.funcNamed Rows.fnEditsRow.func = some f) (hfn : Tryz.pinned.checked.prog.funcs[f]? = some fn) :
    true = Tryz.pinned.checked.prog.looks [] ∧ ∀ (j : Nat) t, fn.params[j]? = some t → Tryz.pinned.checked.prog.wantsStandIn t = false := by
  obtain rfl : f = 3 := Option.some.inj ((show Tryz.prog.funcNamed Rows.fnEditsRow.func = some 3 by kernel_rfl).symm.trans hf) |>.symm
  obtain rfl : fn = Tryz.f3 := (Option.some.inj (Tryz.func3.symm.trans hfn)).symm
  refine ⟨by kernel_rfl, fun j t ht => ?_⟩
  rw [Tryz.params3] at ht
  obtain rfl : t = 22 := by simpa using Array.mem_of_getElem? ht
  exact (show Tryz.prog.wantsStandIn 22 = false by kernel_rfl)
theorem card : Rows.FnEditsCardSaid :=
  Claim7.holds_tied_plain_at .later [] _ _ _ _ said (fun _ h => by cases h) (by kernel_rfl) (fun _ h => by cases h) fnEdits_row_tie rfl ⟨rfl, rfl⟩ (by kernel_rfl) rfl plain (by kernel_rfl)
end Go.Proofs.YtkophfgkcijjkaaGreatDoor.Edc
namespace Go.Proofs.YtkophfgkcijjkaaGreatDoor
theorem fnEdits_card : Rows.FnEditsCardSaid := Edc.card
#print axioms fnEdits_card
end Go.Proofs.YtkophfgkcijjkaaGreatDoor
