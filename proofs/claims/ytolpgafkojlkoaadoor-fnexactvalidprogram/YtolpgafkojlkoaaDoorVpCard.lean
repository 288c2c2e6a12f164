/-
  The row and its card: the frame round the walk.
-/
import Derived.Test.YtolpgafkojlkoaaDoorVpLaw
import Derived.Test.YtolpgafkojlkoaaDoorVpOpen
import Derived.Test.YtolpgafkojlkoaaDoorTie
import Derived.Deep.DeepHandedRow
import Derived.Lib.SmallJoins
namespace Go.Proofs.YtolpgafkojlkoaaDoor.Vp
open Go.ChangeShapes Go.WideShapes Go.ChangeAt Go.RowKit Go.Deep

theorem own : ownKnob Tryd.prog.godebug = none := by kernel_rfl
theorem laidOut : laidOutB Tryd.prog = true := by kernel_rfl
abbrev rowsName : String := Rows.fnExactValidProgramSpec.vars.headD default
theorem gRows : Tryd.prog.globalNamed rowsName = some 0 := by kernel_rfl
theorem tRows : (Tryd.prog.globals[0]?).map (·.type) = some 129 := by kernel_rfl

theorem rowsAt : ∀ k : Nat, k < 16 → ∃ (s t p : DataW Unit) (L : List (DataW Unit)), Rows.laid_loop_example_kilndeed_impl_rows = .agg L ∧ L[k]? = some (.agg [s, .lit (.int .i64 (mostText k)), .lit (.int .i64 (mostN k)), t, p]) := by
  intro k hk
  rcases (show k = 0 ∨ k = 1 ∨ k = 2 ∨ k = 3 ∨ k = 4 ∨ k = 5 ∨ k = 6 ∨ k = 7 ∨ k = 8 ∨ k = 9 ∨ k = 10 ∨ k = 11 ∨ k = 12 ∨ k = 13 ∨ k = 14 ∨ k = 15 by omega) with rfl | rfl | rfl | rfl | rfl | rfl | rfl | rfl | rfl | rfl | rfl | rfl | rfl | rfl | rfl | rfl
  all_goals exact ⟨_, _, _, _, rfl, rfl⟩

theorem at_of_slice {cs : List Value} {o j : Nat} {v : Value} (hj : j < 5) (h : (((cs.drop o).take 5).drop j).take 1 = [v]) : cs[o + j]? = some v := by
  have h2 : ((((cs.drop o).take 5).drop j).take 1)[0]? = some v := by rw [h]; rfl
  simpa [List.getElem?_take, hj] using h2

/-- WHAT THE ROW's LIST GIVES: the two bounds of each row of the table. -/
theorem table {W : World} (h : laidMetH Tryd.prog Rows.fnExactValidProgramRow.laid W) : Tab W := by
  rw [MakeChecks.laidMetH_plain _ _ _ (by kernel_rfl)] at h
  obtain ⟨ps, ⟨g0, t0, cs0, f0, p0, q0, hg0, ht0, hv0, hd0, _, _⟩, _, _⟩ := h
  obtain rfl := Option.some.inj (gRows.symm.trans hg0)
  obtain rfl := Option.some.inj (tRows.symm.trans ht0)
  obtain ⟨xs, m, _, hx, _, hn, hel⟩ := DataW.trod_array Tryd.underlying129 hd0
  rw [cells57] at hel
  have key : ∀ k : Nat, k < 16 → cs0.toList[k * 5 + 1]? = some (.int .i64 (mostText k)) ∧ cs0.toList[k * 5 + 2]? = some (.int .i64 (mostN k)) := by
    intro k hk
    obtain ⟨s, t, p, L, hL, hLk⟩ := rowsAt k hk
    rw [hL] at hx
    simp only [Prod.mk.injEq, DataW.agg.injEq] at hx
    have hk2 := hel k hk
    rw [hx.1, List.getElem?_map] at hLk
    obtain ⟨y, hy, hy1⟩ := Option.map_eq_some_iff.1 hLk
    rw [hy] at hk2
    obtain ⟨ys, n, _, hys, _, _, hf⟩ := DataW.trod_struct Tryd.underlying128 hk2
    have hz : ys.map (·.1) = [s, .lit (.int .i64 (mostText k)), .lit (.int .i64 (mostN k)), t, p] := by
      rw [hys] at hy1
      simpa using hy1
    have h1 : DataW.trod _ Tryd.prog W 0 _ _ n 3 ((((cs0.toList.drop (k * 5)).take 5).drop 1).take (Tryd.prog.cellsOf 3)) = ys[1]? := hf 1 _ rfl
    have h2 : DataW.trod _ Tryd.prog W 0 _ _ n 3 ((((cs0.toList.drop (k * 5)).take 5).drop 2).take (Tryd.prog.cellsOf 3)) = ys[2]? := hf 2 _ rfl
    rw [cells3] at h1 h2
    match ys, hz with
    | [y0, y1, y2, y3, y4], hz =>
      simp only [List.map_cons, List.map_nil, List.cons.injEq, and_true] at hz
      obtain ⟨z1, e1, x1, _⟩ := DataW.trod_int Tryd.underlying3 (show DataW.trod _ Tryd.prog W 0 _ _ n 3 _ = some y1 from h1)
      obtain ⟨z2, e2, x2, _⟩ := DataW.trod_int Tryd.underlying3 (show DataW.trod _ Tryd.prog W 0 _ _ n 3 _ = some y2 from h2)
      have w1 : z1 = mostText k := by have := hz.2.1; rw [x1] at this; simpa using this
      have w2 : z2 = mostN k := by have := hz.2.2.1; rw [x2] at this; simpa using this
      rw [w1] at e1
      rw [w2] at e2
      exact ⟨at_of_slice (by omega) e1, at_of_slice (by omega) e2⟩
  refine ⟨?_, fun k hk => ?_⟩
  · have hc := World.var?_cell hg0 hv0 1
    have := (key 0 (by omega)).1
    simp only [Nat.zero_mul, Nat.zero_add, Array.getElem?_toList] at this
    rw [this] at hc
    rcases Nat.lt_or_ge 0 W.heap.size with h' | h'
    · exact h'
    · simp [World.cell?, Array.getElem?_eq_none h'] at hc
  · have c1 := World.var?_cell hg0 hv0 (k * 5 + 1)
    have c2 := World.var?_cell hg0 hv0 (k * 5 + 2)
    have hk2 := key k hk
    simp only [Array.getElem?_toList] at hk2
    exact ⟨c1.trans hk2.1, c2.trans hk2.2⟩

set_option maxRecDepth 100000 in
/-- WHAT THE WALK GIVES, FOR EVERY ARGUMENT AND EVERY WORLD THAT HOLDS THE TABLE. -/
theorem contract (H : Type) (enc : TypeId × Value → H) (W : World) (base : Nat) (args : Array Value) (ds gs : List (DataW H)) (before : List MemPlace)
    (hval : ∀ (j : Nat) t v, Tryd.f6.params[j]? = some t → args[j]? = some v → Value.okWide Tryd.prog W .any base t v)
    (hW : DataW.Whole enc Tryd.prog Tryd.f6.params.toList Rows.fnExactValidProgramSpec.vars false W args.toList ds gs before) (hL : laidMetH Tryd.prog Rows.fnExactValidProgramRow.laid W) :
    Calls Tryd.prog 6 args W fun e W' => ∃ v, e = .returned v ∧ Rows.fnExactValidProgramSpec.post enc Tryd.prog Tryd.f6 false true false false W args v W' := by
  have hW' := hW
  obtain ⟨p, q, hA0, hV, rfl, hfz, hnd⟩ := hW
  have hA : DataW.TrodAll enc Tryd.prog W 0 (fun _ => true) true Tryd.f6.params.toList args.toList ds p := hA0
  rw [Tryd.params6] at hA hval
  obtain ⟨v0, vs0, d0, ds0, p0, q0, hargs, rfl, rfl, h0, r0⟩ := trodAll_cons hA
  obtain ⟨rfl, rfl, rfl⟩ := trodAll_nil r0
  obtain rfl : args = #[v0] := by cases args; simp_all
  obtain ⟨g, t, cs, fuel, dg, pg, rfl, hg, ht, hv, hd, rfl⟩ := trodVars_one hV
  have hlt := hW'.lt
  obtain ⟨a, n, cap, f, rfl, hn, hS, hs⟩ := open_program (hval 0 52 v0 rfl rfl) h0
  refine (law_any a n cap f W hn hS hs (table hL)).mono fun e W' ⟨he, hB⟩ => ?_
  subst he
  refine ⟨_, rfl, _, _, _, [], p0 ++ [], MemPlace.row ⟨g, 0, none⟩ cs.size ++ pg, hW', ?_, ?_, ?_, hB.frame _, fun h => by cases h⟩
  · exact trodAll_cons_mk (shut_bool Tryd.underlying4 _) trodAll_mk0
  · exact trodAll_cons_mk (Below.trod laidOut (by kernel_rfl) (of_decide_eq_true (by kernel_rfl)) h0 hB (fun x hx => hlt x (by simp [hx]))) trodAll_mk0
  · have e : t = 129 := by rw [Option.some.inj (hg.symm.trans gRows)] at ht; exact Option.some.inj (ht.symm.trans tRows)
    subst e
    have hp : ∀ x ∈ pg, x.block < W.heap.size := fun x hx => hlt x (by simp [hx])
    exact trodVars_mk1 hg ht (Joins.var_stays hg hv hB (Nat.le_refl _))
      (DataW.trod_stays (kids_book laidOut (by kernel_rfl)) (book_sized (by kernel_rfl)) (fun h => by cases h) ⟨of_decide_eq_true (by kernel_rfl), book_self 129⟩ hd (fun x hx => hB.same (hp x hx)) (fun x hx => by simpa using hp x hx))

abbrev noArgs : Array Value := #[.agg #[.slice none 0 0]]
set_option maxRecDepth 100000 in
theorem lifted (os : Os) (started : os.Started) (H : Type) (enc : TypeId × Value → H) (F : Stop.Interp) :
    ReturnsInHanded {} Tryd.checked os 6 .any ((OpenSpec.ofChange Rows.fnExactValidProgramSpec).preRow enc Tryd.prog Tryd.f6 Rows.fnExactValidProgramRow.domain false Rows.fnExactValidProgramRow.laid) (((OpenSpec.ofChange Rows.fnExactValidProgramSpec).at F).post enc Tryd.prog Tryd.f6 false true false false) := by
  -- the witness: the settled world, the table (block 0) holding what its initialiser lays; no instruction
  refine returnsInHanded_of_row (C := Tryd.checked) (s := OpenSpec.ofChange Rows.fnExactValidProgramSpec) own started (by kernel_rfl) Tryd.func6
    (witness_row_at (enc := enc) (C := Tryd.checked) false
      ({ World.holding Tryd.prog os ⟨#[], #[], []⟩ with heap := (World.holding Tryd.prog os ⟨#[], #[], []⟩).heap.modify 0 fun
      | .cells _ t frozen => .cells #[.string ⟨#[]⟩, .int .i64 0, .int .i64 0, .int .i64 0, .int .i64 0, .string ⟨#[108, 105, 116]⟩, .int .i64 2000, .int .i64 0, .int .i64 0, .int .i64 1, .string ⟨#[99, 97, 116]⟩, .int .i64 0, .int .i64 0, .int .i64 2, .int .i64 1, .string ⟨#[99, 117, 116]⟩, .int .i64 0, .int .i64 2000, .int .i64 1, .int .i64 1, .string ⟨#[114, 101, 115, 116]⟩, .int .i64 0, .int .i64 2000, .int .i64 1, .int .i64 1, .string ⟨#[119, 111, 114, 100]⟩, .int .i64 0, .int .i64 2000, .int .i64 1, .int .i64 1, .string ⟨#[115, 97, 109, 101]⟩, .int .i64 0, .int .i64 0, .int .i64 2, .int .i64 1, .string ⟨#[100, 117, 112]⟩, .int .i64 0, .int .i64 0, .int .i64 1, .int .i64 2, .string ⟨#[115, 119, 97, 112]⟩, .int .i64 0, .int .i64 0, .int .i64 2, .int .i64 2, .string ⟨#[100, 114, 111, 112]⟩, .int .i64 0, .int .i64 0, .int .i64 1, .int .i64 0, .string ⟨#[106, 117, 109, 112]⟩, .int .i64 0, .int .i64 200, .int .i64 0, .int .i64 0, .string ⟨#[117, 110, 108, 101, 115, 115]⟩, .int .i64 0, .int .i64 200, .int .i64 1, .int .i64 0, .string ⟨#[97, 115, 107]⟩, .int .i64 0, .int .i64 0, .int .i64 1, .int .i64 1, .string ⟨#[104, 97, 115]⟩, .int .i64 0, .int .i64 0, .int .i64 1, .int .i64 1, .string ⟨#[102, 97, 105, 108]⟩, .int .i64 0, .int .i64 0, .int .i64 1, .int .i64 0, .string ⟨#[101, 110, 100]⟩, .int .i64 0, .int .i64 0, .int .i64 1, .int .i64 0] t frozen
      | o => o } : World)
      noArgs rfl (by kernel_rfl) (by kernel_rfl) (by kernel_rfl)
      (OpenSpec.preRow_of_cond 8 (x := ([.agg [.nil]], [Rows.laid_loop_example_kilndeed_impl_rows], MemPlace.row ⟨0, 0, none⟩ 80)) (by kernel_rfl) (by kernel_rfl) (fun k hk => by cases hk) (by kernel_rfl) (laidMet_of_run' 8 (by kernel_rfl) (by kernel_rfl)))) ?_
  intro W base args ds gs before hval hW _ _ _ hL _ _
  exact contract H enc W base args ds gs before hval hW hL

theorem said : Rows.FnExactValidProgramSaid :=
  OpenClaim.holds_of_cond 6 Tryd.f6 rfl rfl rfl rfl rfl rfl rfl ⟨rfl, rfl, rfl, rfl, rfl⟩ rfl rfl rfl rfl rfl (by kernel_rfl) Tryd.func6 (by kernel_rfl)
    (of_decide_eq_true (by kernel_rfl)) (by unfold Func.isWrapper; first | (rw [if_pos (by decide +kernel)]; kernel_rfl) | (rw [if_neg (by decide +kernel)]; exact ⟨rfl, rfl⟩))
    (fun os started H enc _ F => by rw [OpenClaim.pre_eq_preRow]; exact lifted os started H enc F)

/-- No parameter wants a stand-in; the program's own looks are off. -/
theorem plain (f : FuncId) (fn : Func) (hf : Tryd.pinned.checked.prog.funcNamed Rows.fnExactValidProgramRow.func = some f) (hfn : Tryd.pinned.checked.prog.funcs[f]? = some fn) :
    false = Tryd.pinned.checked.prog.looks [] ∧ ∀ (j : Nat) t, fn.params[j]? = some t → Tryd.pinned.checked.prog.wantsStandIn t = false := by
  obtain rfl : f = 6 := Option.some.inj ((show Tryd.prog.funcNamed Rows.fnExactValidProgramRow.func = some 6 by kernel_rfl).symm.trans hf) |>.symm
  obtain rfl : fn = Tryd.f6 := (Option.some.inj (Tryd.func6.symm.trans hfn)).symm
  refine ⟨by kernel_rfl, fun j t ht => ?_⟩
  rw [Tryd.params6] at ht
  obtain rfl : t = 52 := by simpa using Array.mem_of_getElem? ht
  exact (show Tryd.prog.wantsStandIn 52 = false by kernel_rfl)

/-- THE CARD. -/
theorem card : Rows.FnExactValidProgramCardSaid :=
  Claim7.holds_tied_plain_at .later [] _ _ _ _ said (fun _ h => by cases h) (by kernel_rfl) (fun _ h => by cases h) fnExactValidProgram_row_tie rfl ⟨rfl, rfl⟩ (by kernel_rfl) rfl plain (by kernel_rfl)

end Go.Proofs.YtolpgafkojlkoaaDoor.Vp
namespace Go.Proofs.YtolpgafkojlkoaaDoor
theorem fnExactValidProgram_card : Rows.FnExactValidProgramCardSaid := Vp.card
#print axioms fnExactValidProgram_card
end Go.Proofs.YtolpgafkojlkoaaDoor
