/-
  FnExactReadResult: the law, and the frame round the walk.
-/
import Derived.Test.YtolpgafkojlkoaaRrLaw
import Derived.Test.YtolpgafkojlkoaaRows
import Derived.ProofKit
import Derived.OpenShut
import Derived.Deep.Slices
import Derived.Deep.Strs
import Derived.Deep.DeepHandedRow
import Derived.Lib.SmallJoins
namespace Go.Proofs.Ytolpgafkojlkoaa.Vp
open Go.ChangeShapes Go.WideShapes Go.ChangeAt Go.RowKit Go.Deep

set_option maxHeartbeats 4000000 in
theorem law_any (s : ByteArray) (w : World) : Calls Try.prog 3 #[.string s] w fun e w' => e = .returned (.bool true) ∧ Below w.heap.size w w' := by
  by_cases hs : (s.size : Int) ≤ 1048576
  · obtain ⟨c, t, o, hv⟩ : ∃ c t o, readV s = .tuple #[resV c t, .bool o] := by
      cases h : readOk s with
      | true => exact ⟨_, _, _, readV_yes h⟩
      | false => exact ⟨_, _, _, readV_no h⟩
    have SR := fun w => specRead_any s w hs
    have IR := implRead_any s
    simp only [hv] at SR IR
    have HSR := hide SR
    have HIR := hide IR
    clear SR IR hv
    go_enter Try.func3, Try.ntmps3
    go_wp2_with fail
    refine (HSR.out _).mono ?_
    rintro e w1 ⟨rfl, hB1⟩
    have B1 := hide hB1
    clear hB1
    go_wp2_with fail
    refine (HIR.out _).mono ?_
    rintro e w2 ⟨rfl, hB2⟩
    have a0 : w2.cell? ⟨w1.heap.size, 0, none⟩ = some (.int .i64 c) := by rw [hB2.cell (p := ⟨w1.heap.size, _, none⟩) (by simp)]; simp
    have a1 : w2.cell? ⟨w1.heap.size, 1, none⟩ = some (.string t) := by rw [hB2.cell (p := ⟨w1.heap.size, _, none⟩) (by simp)]; simp
    have a2 : w2.cell? ⟨w1.heap.size, 2, none⟩ = some (.slice none 0 0) := by rw [hB2.cell (p := ⟨w1.heap.size, _, none⟩) (by simp)]; simp
    have z2 : w1.heap.size < w2.heap.size := by have := hB2.size; simp at this; omega
    have B2 : Hid (Below w.heap.size w w2) := (B1.out.alloc B1.out.size _).trans (hB2.mono (by have := B1.out.size; simp; omega))
    clear hB2
    go_wp2_with fail
    refine (eqRes_same c t _).mono ?_
    rintro e w3 ⟨rfl, hB3⟩
    have k3 : Below w2.heap.size w2 w3 := ((Below.refl _ _).alloc (Nat.le_refl _) _).trans (hB3.mono (by simp))
    have b0 : w3.cell? ⟨w1.heap.size, 0, none⟩ = some (.int .i64 c) := (k3.cell (p := ⟨w1.heap.size, _, none⟩) z2).trans a0
    have b1 : w3.cell? ⟨w1.heap.size, 1, none⟩ = some (.string t) := (k3.cell (p := ⟨w1.heap.size, _, none⟩) z2).trans a1
    have b2 : w3.cell? ⟨w1.heap.size, 2, none⟩ = some (.slice none 0 0) := (k3.cell (p := ⟨w1.heap.size, _, none⟩) z2).trans a2
    clear k3
    have d0 : w3.cell? ⟨w2.heap.size, 0, none⟩ = some (.int .i64 c) := by rw [hB3.cell (p := ⟨w2.heap.size, _, none⟩) (by simp)]; simp
    have d1 : w3.cell? ⟨w2.heap.size, 1, none⟩ = some (.string t) := by rw [hB3.cell (p := ⟨w2.heap.size, _, none⟩) (by simp)]; simp
    have d2 : w3.cell? ⟨w2.heap.size, 2, none⟩ = some (.slice none 0 0) := by rw [hB3.cell (p := ⟨w2.heap.size, _, none⟩) (by simp)]; simp
    have z3 : w2.heap.size < w3.heap.size := by have := hB3.size; simp at this; omega
    have B3 : Hid (Below w.heap.size w w3) := (B2.out.alloc B2.out.size _).trans (hB3.mono (by have := B2.out.size; simp; omega))
    clear hB3 a0 a1 a2
    go_wp2_with fail
    refine (markRes c t 1 _).mono ?_
    rintro e w4 ⟨rfl, hB4⟩
    have k4 : ∀ b o, b < w3.heap.size → w4.cell? ⟨b, o, none⟩ = w3.cell? ⟨b, o, none⟩ := fun b o h => hB4.cell (p := ⟨b, o, none⟩) h
    rw [← k4 _ _ (by omega)] at b0 b1 b2 d0 d1 d2
    have z4 : w3.heap.size ≤ w4.heap.size := hB4.size
    have B4 : Hid (Below w.heap.size w w4) := B3.out.trans (hB4.mono B3.out.size)
    clear hB4 k4
    go_wp2_with fail
    refine (heldRes c t 1 _ (by omega)).mono ?_
    rintro e w5 ⟨rfl, hB5⟩
    have k5 : ∀ b o, b < w4.heap.size → w5.cell? ⟨b, o, none⟩ = w4.cell? ⟨b, o, none⟩ := fun b o h => hB5.cell (p := ⟨b, o, none⟩) h
    rw [← k5 _ _ (by omega)] at b0 b1 b2 d0 d1 d2
    have z5 : w4.heap.size ≤ w5.heap.size := hB5.size
    have B5 : Hid (Below w.heap.size w w5) := B4.out.trans (hB5.mono B4.out.size)
    clear hB5 k5
    go_wp2_with fail
    refine (HIR.out _).mono ?_
    rintro e w6 ⟨rfl, hB6⟩
    have k6 : ∀ b o, b < w5.heap.size → w6.cell? ⟨b, o, none⟩ = w5.cell? ⟨b, o, none⟩ := fun b o h => hB6.cell (p := ⟨b, o, none⟩) h
    rw [← k6 _ _ (by omega)] at b0 b1 b2 d0 d1 d2
    have z6 : w5.heap.size ≤ w6.heap.size := hB6.size
    have B6 : Hid (Below w.heap.size w w6) := B5.out.trans (hB6.mono B5.out.size)
    clear hB6 k6
    have e0 : ∀ o, (w6.alloc (.cells #[.int .i64 c, .string t, .slice none 0 0] 24)).cell? ⟨w1.heap.size, o, none⟩ = w6.cell? ⟨w1.heap.size, o, none⟩ := fun o => ((Below.refl w6.heap.size w6).alloc (Nat.le_refl _) _).cell (p := ⟨w1.heap.size, o, none⟩) (by simp; omega)
    go_wp2_with fail
    refine (eqRes_same c t _).mono ?_
    rintro e w7 ⟨rfl, hB7⟩
    have B7 : Hid (Below w.heap.size w w7) := (B6.out.alloc B6.out.size _).trans (hB7.mono (by have := B6.out.size; simp; omega))
    clear hB7
    go_wp2
    go_ret
    exact ⟨rfl, B7.out⟩
  · go_enter Try.func3, Try.ntmps3
    go_wp2
    go_ret
    exact ⟨rfl, Below.refl _ _⟩

theorem own : ownKnob Try.prog.godebug = none := by kernel_rfl
theorem laidOut : laidOutB Try.prog = true := by kernel_rfl

theorem contract (H : Type) (enc : TypeId × Value → H) (W : World) (base : Nat) (args : Array Value) (ds gs : List (DataW H)) (before : List MemPlace)
    (hval : ∀ (j : Nat) t v, Try.f3.params[j]? = some t → args[j]? = some v → Value.okWide Try.prog W .any base t v)
    (hW : DataW.Whole enc Try.prog Try.f3.params.toList Rows.fnExactReadResultSpec.vars false W args.toList ds gs before) :
    Calls Try.prog 3 args W fun e W' => ∃ v, e = .returned v ∧ Rows.fnExactReadResultSpec.post enc Try.prog Try.f3 false true false false W args v W' := by
  have hW' := hW
  obtain ⟨p, q, hA0, hV, rfl, hfz, hnd⟩ := hW
  have hA : DataW.TrodAll enc Try.prog W 0 (fun _ => true) true Try.f3.params.toList args.toList ds p := hA0
  rw [Try.params3] at hA hval
  obtain ⟨v0, vs0, d0, ds0, p0, q0, hargs, rfl, rfl, h0, r0⟩ := trodAll_cons hA
  obtain ⟨rfl, rfl, rfl⟩ := trodAll_nil r0
  obtain rfl : args = #[v0] := by cases args; simp_all
  obtain ⟨rfl, rfl⟩ : gs = [] ∧ q = [] := by
    have hV2 : DataW.TrodVars enc Try.prog W (fun _ => true) [] gs q := hV
    cases gs with
    | nil => exact ⟨rfl, hV2⟩
    | cons _ _ => exact hV2.elim
  have hlt := hW'.lt
  obtain ⟨s, rfl⟩ := okWide_string Try.underlying9 (hval 0 9 v0 rfl rfl)
  refine (law_any s W).mono fun e W' ⟨he, hB⟩ => ?_
  subst he
  refine ⟨_, rfl, _, _, _, [], p0 ++ [], [], hW', ?_, ?_, ?_, hB.frame _, fun h => by cases h⟩
  · exact trodAll_cons_mk (shut_bool Try.underlying4 _) trodAll_mk0
  · exact trodAll_cons_mk (Below.trod laidOut (by kernel_rfl) (of_decide_eq_true (by kernel_rfl)) h0 hB (fun x hx => hlt x (by simp [hx]))) trodAll_mk0
  · exact (show ([] : List MemPlace) = [] from rfl)

abbrev noArgs : Array Value := #[.string ⟨#[]⟩]
set_option maxRecDepth 100000 in
theorem lifted (os : Os) (started : os.Started) (H : Type) (enc : TypeId × Value → H) (F : Stop.Interp) :
    ReturnsInHanded {} Try.checked os 3 .any ((OpenSpec.ofChange Rows.fnExactReadResultSpec).preRow enc Try.prog Try.f3 Rows.fnExactReadResultRow.domain false Rows.fnExactReadResultRow.laid) (((OpenSpec.ofChange Rows.fnExactReadResultSpec).at F).post enc Try.prog Try.f3 false true false false) := by
  refine returnsInHanded_of_row (C := Try.checked) (s := OpenSpec.ofChange Rows.fnExactReadResultSpec) own started (by kernel_rfl) Try.func3
    (witness_row_at (enc := enc) (C := Try.checked) false
      (World.holding Try.prog os ⟨#[], #[], []⟩)
      noArgs rfl (by kernel_rfl) (by kernel_rfl) (by kernel_rfl)
      (OpenSpec.preRow_of_cond 8 (x := ([.lit (.string [])], [], [])) (by kernel_rfl) (by kernel_rfl) (fun k hk => by cases hk) (by kernel_rfl) (laidMet_of_run' 8 (by kernel_rfl) (by kernel_rfl)))) ?_
  intro W base args ds gs before hval hW _ _ _ hL _ _
  exact contract H enc W base args ds gs before hval hW

theorem said : Rows.FnExactReadResultSaid :=
  OpenClaim.holds_of_cond 3 Try.f3 rfl rfl rfl rfl rfl rfl rfl ⟨rfl, rfl, rfl, rfl, rfl⟩ rfl rfl rfl rfl rfl (by kernel_rfl) Try.func3 (by kernel_rfl)
    (of_decide_eq_true (by kernel_rfl)) (by unfold Func.isWrapper; first | (rw [if_pos (by decide +kernel)]; kernel_rfl) | (rw [if_neg (by decide +kernel)]; exact ⟨rfl, rfl⟩))
    (fun os started H enc _ F => by rw [OpenClaim.pre_eq_preRow]; exact lifted os started H enc F)

end Go.Proofs.Ytolpgafkojlkoaa.Vp
namespace Go.Proofs.Ytolpgafkojlkoaa
theorem fnExactReadResult_holds : Rows.FnExactReadResultSaid := Vp.said
#print axioms fnExactReadResult_holds
end Go.Proofs.Ytolpgafkojlkoaa
