/-
  The row on Unseal and its card.
-/
import Derived.Test.YtkbhcajiebeepaaGreatDoorZUnFacts
import Derived.Test.YtkbhcajiebeepaaGreatDoorCards
namespace Go.Proofs.YtkbhcajiebeepaaGreatDoor.Unc
open Go.ChangeShapes Go.WideShapes Go.ChangeAt Go.RowKit Go.Deep Go.Proofs.YtkbhcajiebeepaaGreatDoor.Vp

theorem vars_len {H : Type} {enc : TypeId × Value → H} {W : World} {sp : Nat → Bool} : ∀ {ns : List String} {gs : List (DataW H)} {q : List MemPlace}, DataW.TrodVars enc Tryz.prog W sp ns gs q → gs.length = ns.length
  | [], [], _, _ => rfl
  | _ :: ns, _ :: gs, _, h => by
    obtain ⟨_, _, _, _, _, q, _, _, _, _, h1, _⟩ := h
    simp only [List.length_cons]
    rw [vars_len h1]
  | [], _ :: _, _, h => h.elim
  | _ :: _, [], _, h => h.elim
/-- What a variable is of: the table, an error. -/
def Fine (n : String) : Prop := ∀ g t, Tryz.prog.globalNamed n = some g → (Tryz.prog.globals[g]?).map (·.type) = some t → Tryz.prog.readableRec t = true ∧ t < Tryz.prog.types.size
theorem fineE {n : String} {g : Nat} (hg : Tryz.prog.globalNamed n = some g) (ht : (Tryz.prog.globals[g]?).map (·.type) = some 35) : Fine n := fun g' t' h1 h2 => by
  obtain rfl := Option.some.inj (hg.symm.trans h1)
  obtain rfl := Option.some.inj (ht.symm.trans h2)
  exact ⟨by kernel_rfl, of_decide_eq_true (by kernel_rfl)⟩
theorem fineR : Fine rowsName := fun g' t' h1 h2 => by
  obtain rfl := Option.some.inj (gRows.symm.trans h1)
  obtain rfl := Option.some.inj (tRows.symm.trans h2)
  exact ⟨by kernel_rfl, of_decide_eq_true (by kernel_rfl)⟩
theorem vars_stay {H : Type} {enc : TypeId × Value → H} {W W' : World} (hB : Below W.heap.size W W') : ∀ {ns : List String} {gs : List (DataW H)} {q : List MemPlace}, (∀ n ∈ ns, Fine n) → DataW.TrodVars enc Tryz.prog W (fun _ => true) ns gs q → (∀ x ∈ q, x.block < W.heap.size) → DataW.TrodVars enc Tryz.prog W' (fun b => decide (b < W.heap.size)) ns gs q
  | [], [], _, _, h, _ => h
  | n :: ns, d :: gs, q, hf, h, hl => by
    obtain ⟨g, t, cs, fuel, p, q', h1, h2, h3, h4, h5, rfl⟩ := h
    obtain ⟨hr, ht⟩ := hf n (by simp) g t h1 h2
    have hp : ∀ x ∈ p, x.block < W.heap.size := fun x hx => hl x (by simp [hx])
    refine ⟨g, t, cs, fuel, p, q', h1, h2, Joins.var_stays h1 h3 hB (Nat.le_refl _), ?_, vars_stay hB (fun m hm => hf m (by simp [hm])) h5 (fun x hx => hl x (by simp [hx])), rfl⟩
    exact DataW.trod_stays (kids_book laidOut hr) (book_sized hr) (fun h => by cases h) ⟨ht, book_self t⟩ h4 (fun x hx => hB.same (hp x hx)) (fun x hx => by simpa using hp x hx)
  | [], _ :: _, _, _, h, _ => h.elim
  | _ :: _, [], _, _, h, _ => h.elim
theorem fineAll : ∀ n ∈ Rows.fnExactUnsealSpec.vars, Fine n := by
  intro n hn
  have hn : n ∈ ["loop.example/kilndeed/impl.errWord", "loop.example/kilndeed/impl.errNumber", "loop.example/kilndeed/impl.errQuote", "loop.example/kilndeed/impl.errNoTarget", "loop.example/kilndeed/impl.rows", "loop.example/kilndeed/impl.errOperand", "loop.example/kilndeed/impl.errBound"] := hn
  simp only [List.mem_cons, List.not_mem_nil, or_false] at hn
  rcases hn with rfl | rfl | rfl | rfl | rfl | rfl | rfl
  · exact fineE g_errWord t_errWord
  · exact fineE g_errNumber t_errNumber
  · exact fineE g_errQuote t_errQuote
  · exact fineE g_errNoTarget t_errNoTarget
  · exact fineR
  · exact fineE g_errOperand t_errOperand
  · exact fineE g_errBound t_errBound

set_option maxRecDepth 100000 in
theorem open_text {H : Type} {enc : TypeId × Value → H} {W : World} {base : Nat} {v : Value} {d : DataW H} {p : List MemPlace} (hv : Value.okWide Tryz.prog W .any base 9 v)
    (h : DataW.Trod enc Tryz.prog W 0 (fun _ => true) true 9 v d p) : ∃ s : ByteArray, v = .string s ∧ s.size ≤ maxLen := by
  obtain ⟨s, rfl⟩ := okWide_string Tryz.underlying9 hv
  obtain ⟨fuel, hf⟩ := h
  obtain ⟨s', e, _, hs⟩ := DataW.trod_string Tryz.underlying9 hf
  simp [Value.cells] at e
  exact ⟨s, rfl, by rw [e]; exact hs⟩

set_option maxRecDepth 100000 in
theorem contract (H : Type) (enc : TypeId × Value → H) (W : World) (base : Nat) (args : Array Value) (ds gs : List (DataW H)) (before : List MemPlace)
    (hval : ∀ (j : Nat) t v, Tryz.f4.params[j]? = some t → args[j]? = some v → Value.okWide Tryz.prog W .any base t v)
    (hW : DataW.Whole enc Tryz.prog Tryz.f4.params.toList Rows.fnExactUnsealSpec.vars false W args.toList ds gs before) (hL : laidMetH Tryz.prog Rows.fnExactUnsealRow.laid W) :
    Calls Tryz.prog 4 args W fun e W' => ∃ v, e = .returned v ∧ Rows.fnExactUnsealSpec.post enc Tryz.prog Tryz.f4 false true false false W args v W' := by
  have hW' := hW
  obtain ⟨p, q, hA0, hV, rfl, hfz, hnd⟩ := hW
  have hA : DataW.TrodAll enc Tryz.prog W 0 (fun _ => true) true Tryz.f4.params.toList args.toList ds p := hA0
  rw [Tryz.params4] at hA hval
  obtain ⟨v0, vs0, d0, ds0, p0, q0, hargs, rfl, rfl, h0, r0⟩ := trodAll_cons hA
  obtain ⟨v1, vs1, d1, ds1, p1, q1, hargs1, rfl, rfl, h1, r1⟩ := trodAll_cons r0
  obtain ⟨rfl, rfl, rfl⟩ := trodAll_nil r1
  subst hargs1
  obtain rfl : args = #[v0, v1] := by cases args; simp_all
  have hlt := hW'.lt
  have hlen : gs.length = 7 := vars_len hV
  obtain ⟨tx, rfl, htx⟩ := open_text (hval 0 9 v0 rfl rfl) h0
  obtain ⟨ky, rfl, hky⟩ := open_text (hval 1 9 v1 rfl rfl) h1
  obtain ⟨T1, T2, T3⟩ := tables hL
  refine (law_un tx ky W htx hky T1 T2 T3).mono fun e W' ⟨he, hB⟩ => ?_
  subst he
  match gs, hlen, hV, hW' with
  | [x1, x2, x3, x4, x5, x6, x7], _, hV, hW' =>
    refine ⟨_, rfl, _, _, _, [], p0 ++ (p1 ++ []), q, hW', ?_, ?_, ?_, hB.frame _, fun h => by cases h⟩
    · exact trodAll_cons_mk (shut_bool Tryz.underlying4 _) trodAll_mk0
    · exact trodAll_cons_mk (Below.trod laidOut (by kernel_rfl) (of_decide_eq_true (by kernel_rfl)) h0 hB (fun x hx => hlt x (by simp [hx]))) (trodAll_cons_mk (Below.trod laidOut (by kernel_rfl) (of_decide_eq_true (by kernel_rfl)) h1 hB (fun x hx => hlt x (by simp [hx]))) trodAll_mk0)
    · exact vars_stay hB fineAll hV (fun x hx => hlt x (by simp [hx]))

def put (cs : Array Value) : Obj → Obj
  | .cells _ t frozen => .cells cs t frozen
  | o => o
abbrev noArgs : Array Value := #[.string ⟨#[]⟩, .string ⟨#[]⟩]
set_option maxRecDepth 100000 in
theorem lifted (os : Os) (started : os.Started) (H : Type) (enc : TypeId × Value → H) (F : Stop.Interp) :
    ReturnsInHanded {} Tryz.checked os 4 .any ((OpenSpec.ofChange Rows.fnExactUnsealSpec).preRow enc Tryz.prog Tryz.f4 Rows.fnExactUnsealRow.domain false Rows.fnExactUnsealRow.laid) (((OpenSpec.ofChange Rows.fnExactUnsealSpec).at F).post enc Tryz.prog Tryz.f4 false true false false) := by
  refine returnsInHanded_of_row (C := Tryz.checked) (s := OpenSpec.ofChange Rows.fnExactUnsealSpec) own started (by kernel_rfl) Tryz.func4
    (witness_row_at (enc := enc) (C := Tryz.checked) false ({ World.holding Tryz.prog os ⟨#[.cells #[.string ⟨#[110, 111, 32, 119, 111, 114, 100, 32, 111, 102, 32, 97, 110, 32, 105, 110, 115, 116, 114, 117, 99, 116, 105, 111, 110]⟩] 188, .cells #[.string ⟨#[110, 111, 32, 100, 101, 99, 105, 109, 97, 108, 32, 97, 115, 32, 105, 116, 32, 105, 115, 32, 119, 114, 105, 116, 116, 101, 110]⟩] 188, .cells #[.string ⟨#[110, 111, 32, 116, 101, 120, 116, 32, 105, 110, 32, 113, 117, 111, 116, 101, 115, 32, 97, 115, 32, 105, 116, 32, 105, 115, 32, 119, 114, 105, 116, 116, 101, 110]⟩] 188, .cells #[.string ⟨#[97, 32, 108, 105, 110, 101, 32, 111, 102, 32, 97, 32, 116, 97, 114, 103, 101, 116, 32, 97, 104, 101, 97, 100, 32, 111, 102, 32, 97, 108, 108, 32, 100, 101, 101, 100, 115]⟩] 188, .cells #[.string ⟨#[97, 110, 32, 111, 112, 101, 114, 97, 110, 100, 32, 116, 104, 97, 116, 32, 116, 104, 101, 32, 119, 111, 114, 100, 32, 100, 111, 101, 115, 32, 110, 111, 116, 32, 104, 97, 118, 101]⟩] 188, .cells #[.string ⟨#[97, 110, 32, 111, 112, 101, 114, 97, 110, 100, 32, 111, 117, 116, 32, 111, 102, 32, 105, 116, 115, 32, 98, 111, 117, 110, 100, 115]⟩] 188, .cells #[.string ⟨#[118, 97, 108, 117, 101, 32, 111, 117, 116, 32, 111, 102, 32, 114, 97, 110, 103, 101]⟩] 188, .cells #[.string ⟨#[105, 110, 118, 97, 108, 105, 100, 32, 115, 121, 110, 116, 97, 120]⟩] 188], #[], []⟩ with heap := (Array.modify (Array.modify (Array.modify (Array.modify (Array.modify (Array.modify (Array.modify (Array.modify (Array.modify (Array.modify (Array.modify (Array.modify (World.holding Tryz.prog os ⟨#[.cells #[.string ⟨#[110, 111, 32, 119, 111, 114, 100, 32, 111, 102, 32, 97, 110, 32, 105, 110, 115, 116, 114, 117, 99, 116, 105, 111, 110]⟩] 188, .cells #[.string ⟨#[110, 111, 32, 100, 101, 99, 105, 109, 97, 108, 32, 97, 115, 32, 105, 116, 32, 105, 115, 32, 119, 114, 105, 116, 116, 101, 110]⟩] 188, .cells #[.string ⟨#[110, 111, 32, 116, 101, 120, 116, 32, 105, 110, 32, 113, 117, 111, 116, 101, 115, 32, 97, 115, 32, 105, 116, 32, 105, 115, 32, 119, 114, 105, 116, 116, 101, 110]⟩] 188, .cells #[.string ⟨#[97, 32, 108, 105, 110, 101, 32, 111, 102, 32, 97, 32, 116, 97, 114, 103, 101, 116, 32, 97, 104, 101, 97, 100, 32, 111, 102, 32, 97, 108, 108, 32, 100, 101, 101, 100, 115]⟩] 188, .cells #[.string ⟨#[97, 110, 32, 111, 112, 101, 114, 97, 110, 100, 32, 116, 104, 97, 116, 32, 116, 104, 101, 32, 119, 111, 114, 100, 32, 100, 111, 101, 115, 32, 110, 111, 116, 32, 104, 97, 118, 101]⟩] 188, .cells #[.string ⟨#[97, 110, 32, 111, 112, 101, 114, 97, 110, 100, 32, 111, 117, 116, 32, 111, 102, 32, 105, 116, 115, 32, 98, 111, 117, 110, 100, 115]⟩] 188, .cells #[.string ⟨#[118, 97, 108, 117, 101, 32, 111, 117, 116, 32, 111, 102, 32, 114, 97, 110, 103, 101]⟩] 188, .cells #[.string ⟨#[105, 110, 118, 97, 108, 105, 100, 32, 115, 121, 110, 116, 97, 120]⟩] 188], #[], []⟩).heap 0 (put #[.iface 186 (.pointer (some ⟨13 + 5, 0, none⟩))])) 2 (put #[.iface 186 (.pointer (some ⟨13 + 6, 0, none⟩))])) 3 (put #[.iface 186 (.pointer (some ⟨13 + 7, 0, none⟩))])) 1 (put #[.iface 186 (.pointer (some ⟨13 + 8, 0, none⟩))])) 5 (put #[.iface 186 (.pointer (some ⟨13 + 9, 0, none⟩))])) 6 (put #[.iface 186 (.pointer (some ⟨13 + 10, 0, none⟩))])) 12 (put #[.iface 186 (.pointer (some ⟨13 + 11, 0, none⟩))])) 11 (put #[.iface 186 (.pointer (some ⟨13 + 12, 0, none⟩))])) 4 (put #[.string ⟨#[]⟩, .int .i64 0, .int .i64 0, .int .i64 0, .int .i64 0, .string ⟨#[108, 105, 116]⟩, .int .i64 2000, .int .i64 0, .int .i64 0, .int .i64 1, .string ⟨#[99, 97, 116]⟩, .int .i64 0, .int .i64 0, .int .i64 2, .int .i64 1, .string ⟨#[99, 117, 116]⟩, .int .i64 0, .int .i64 2000, .int .i64 1, .int .i64 1, .string ⟨#[114, 101, 115, 116]⟩, .int .i64 0, .int .i64 2000, .int .i64 1, .int .i64 1, .string ⟨#[119, 111, 114, 100]⟩, .int .i64 0, .int .i64 2000, .int .i64 1, .int .i64 1, .string ⟨#[115, 97, 109, 101]⟩, .int .i64 0, .int .i64 0, .int .i64 2, .int .i64 1, .string ⟨#[100, 117, 112]⟩, .int .i64 0, .int .i64 0, .int .i64 1, .int .i64 2, .string ⟨#[115, 119, 97, 112]⟩, .int .i64 0, .int .i64 0, .int .i64 2, .int .i64 2, .string ⟨#[100, 114, 111, 112]⟩, .int .i64 0, .int .i64 0, .int .i64 1, .int .i64 0, .string ⟨#[106, 117, 109, 112]⟩, .int .i64 0, .int .i64 200, .int .i64 0, .int .i64 0, .string ⟨#[117, 110, 108, 101, 115, 115]⟩, .int .i64 0, .int .i64 200, .int .i64 1, .int .i64 0, .string ⟨#[97, 115, 107]⟩, .int .i64 0, .int .i64 0, .int .i64 1, .int .i64 1, .string ⟨#[104, 97, 115]⟩, .int .i64 0, .int .i64 0, .int .i64 1, .int .i64 1, .string ⟨#[102, 97, 105, 108]⟩, .int .i64 0, .int .i64 0, .int .i64 1, .int .i64 0, .string ⟨#[101, 110, 100]⟩, .int .i64 0, .int .i64 0, .int .i64 1, .int .i64 0])) 7 (put #[.int .u64 1, .int .u64 10, .int .u64 100, .int .u64 1000, .int .u64 10000, .int .u64 100000, .int .u64 1000000, .int .u64 10000000, .int .u64 100000000, .int .u64 1000000000, .int .u64 10000000000, .int .u64 100000000000, .int .u64 1000000000000, .int .u64 10000000000000, .int .u64 100000000000000, .int .u64 1000000000000000, .int .u64 10000000000000000, .int .u64 100000000000000000, .int .u64 1000000000000000000, .int .u64 10000000000000000000])) 9 (put #[.int .u8 0, .int .u8 1, .int .u8 28, .int .u8 2, .int .u8 29, .int .u8 14, .int .u8 24, .int .u8 3, .int .u8 30, .int .u8 22, .int .u8 20, .int .u8 15, .int .u8 25, .int .u8 17, .int .u8 4, .int .u8 8, .int .u8 31, .int .u8 27, .int .u8 13, .int .u8 23, .int .u8 21, .int .u8 19, .int .u8 16, .int .u8 7, .int .u8 26, .int .u8 12, .int .u8 18, .int .u8 6, .int .u8 11, .int .u8 5, .int .u8 10, .int .u8 9])) 10 (put #[.int .u8 0, .int .u8 1, .int .u8 56, .int .u8 2, .int .u8 57, .int .u8 49, .int .u8 28, .int .u8 3, .int .u8 61, .int .u8 58, .int .u8 42, .int .u8 50, .int .u8 38, .int .u8 29, .int .u8 17, .int .u8 4, .int .u8 62, .int .u8 47, .int .u8 59, .int .u8 36, .int .u8 45, .int .u8 43, .int .u8 51, .int .u8 22, .int .u8 53, .int .u8 39, .int .u8 33, .int .u8 30, .int .u8 24, .int .u8 18, .int .u8 12, .int .u8 5, .int .u8 63, .int .u8 55, .int .u8 48, .int .u8 27, .int .u8 60, .int .u8 41, .int .u8 37, .int .u8 16, .int .u8 46, .int .u8 35, .int .u8 44, .int .u8 21, .int .u8 52, .int .u8 32, .int .u8 23, .int .u8 11, .int .u8 54, .int .u8 26, .int .u8 40, .int .u8 15, .int .u8 34, .int .u8 20, .int .u8 31, .int .u8 10, .int .u8 25, .int .u8 14, .int .u8 19, .int .u8 9, .int .u8 13, .int .u8 8, .int .u8 7, .int .u8 6])) } : World)
      noArgs rfl (by kernel_rfl) (by kernel_rfl) (by kernel_rfl)
      (OpenSpec.preRow_of_cond 8 (x := ([.lit (.string []), .lit (.string [])], [.held (enc (186, .pointer (some ⟨13 + 5, 0, none⟩))), .held (enc (186, .pointer (some ⟨13 + 6, 0, none⟩))), .held (enc (186, .pointer (some ⟨13 + 7, 0, none⟩))), .held (enc (186, .pointer (some ⟨13 + 8, 0, none⟩))), Rows.laid_loop_example_kilndeed_impl_rows, .held (enc (186, .pointer (some ⟨13 + 9, 0, none⟩))), .held (enc (186, .pointer (some ⟨13 + 10, 0, none⟩)))], MemPlace.row ⟨0, 0, none⟩ 1 ++ MemPlace.row ⟨2, 0, none⟩ 1 ++ MemPlace.row ⟨3, 0, none⟩ 1 ++ MemPlace.row ⟨1, 0, none⟩ 1 ++ MemPlace.row ⟨4, 0, none⟩ 80 ++ MemPlace.row ⟨5, 0, none⟩ 1 ++ MemPlace.row ⟨6, 0, none⟩ 1)) (by kernel_rfl) (by kernel_rfl) (fun k hk => by cases hk) (by kernel_rfl) (laidMetH_of_parts (laidMet_of_run' 8 (by kernel_rfl) (by kernel_rfl)) (by kernel_rfl)))) ?_
  intro W base args ds gs before hval hW _ _ _ hL _ _
  exact contract H enc W base args ds gs before hval hW hL

theorem said : Rows.FnExactUnsealSaid :=
  OpenClaim.holds_of_cond 4 Tryz.f4 rfl rfl rfl rfl rfl rfl rfl ⟨rfl, rfl, rfl, rfl, rfl⟩ rfl rfl rfl rfl rfl (by kernel_rfl) Tryz.func4 facts
    (of_decide_eq_true (by kernel_rfl)) (by unfold Func.isWrapper; first | (rw [if_pos (by decide +kernel)]; kernel_rfl) | (rw [if_neg (by decide +kernel)]; exact ⟨rfl, rfl⟩))
    (fun os started H enc _ F => by rw [OpenClaim.pre_eq_preRow]; exact lifted os started H enc F)

theorem plain (f : FuncId) (fn : Func) (hf : Tryz.pinned.checked.prog.funcNamed Rows.fnExactUnsealRow.func = some f) (hfn : Tryz.pinned.checked.prog.funcs[f]? = some fn) :
    true = Tryz.pinned.checked.prog.looks [] ∧ ∀ (j : Nat) t, fn.params[j]? = some t → Tryz.pinned.checked.prog.wantsStandIn t = false := by
  obtain rfl : f = 4 := Option.some.inj ((show Tryz.prog.funcNamed Rows.fnExactUnsealRow.func = some 4 by kernel_rfl).symm.trans hf) |>.symm
  obtain rfl : fn = Tryz.f4 := (Option.some.inj (Tryz.func4.symm.trans hfn)).symm
  refine ⟨by kernel_rfl, fun j t ht => ?_⟩
  rw [Tryz.params4] at ht
  obtain rfl : t = 9 := by
    have := Array.mem_of_getElem? ht
    simpa using this
  exact (show Tryz.prog.wantsStandIn 9 = false by kernel_rfl)

/-- THE CARD. -/
theorem card : Rows.FnExactUnsealCardSaid :=
  Claim7.holds_tied_plain_at .later [] _ _ _ _ said (fun _ h => by cases h) (by kernel_rfl) (fun _ h => by cases h) fnExactUnseal_row_tie rfl ⟨rfl, rfl⟩ (by kernel_rfl) rfl plain (by kernel_rfl)

end Go.Proofs.YtkbhcajiebeepaaGreatDoor.Unc
namespace Go.Proofs.YtkbhcajiebeepaaGreatDoor
theorem fnExactUnseal_card : Rows.FnExactUnsealCardSaid := Unc.card
#print axioms fnExactUnseal_card
end Go.Proofs.YtkbhcajiebeepaaGreatDoor
