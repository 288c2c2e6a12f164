/-
  The argument opened; the table out of the row's list.
-/
import Derived.Test.YtolpgafkojlkoabDoorVpImpl
import Derived.Test.YtolpgafkojlkoabDoorCards
import Derived.ProofKit
import Derived.OpenShut
import Derived.Deep.Slices
import Derived.Deep.Strs
import Derived.MakeChecks
namespace Go.Proofs.YtolpgafkojlkoabDoor.Vp
open Go.ChangeShapes Go.WideShapes Go.ChangeAt Go.RowKit Go.Deep

theorem cells3 : Tryd.prog.cellsOf 3 = 1 := by kernel_rfl
theorem cells9 : Tryd.prog.cellsOf 9 = 1 := by kernel_rfl
theorem cells22 : Tryd.prog.cellsOf 53 = 1 := by kernel_rfl
theorem cells24 : Tryd.prog.cellsOf 55 = 1 := by kernel_rfl
theorem cells52 : Tryd.prog.cellsOf 94 = 3 := by kernel_rfl
theorem cells57 : Tryd.prog.cellsOf 99 = 5 := by kernel_rfl
theorem cells58 : Tryd.prog.cellsOf 100 = 80 := by kernel_rfl

/-- Three cells in a row. -/
theorem cells?_three {w : World} {base : Nat} {a : Addr} {cs : List Value} (h : w.cells? base a 3 = some cs) :
    ∃ v0 v1 v2, cs = [v0, v1, v2] ∧ w.cell? (a.add 0) = some v0 ∧ w.cell? (a.add 1) = some v1 ∧ w.cell? (a.add 2) = some v2 := by
  unfold World.cells? at h
  split at h
  · simp only [show List.range 3 = [0, 1, 2] from rfl, List.mapM_cons, List.mapM_nil, Option.bind_eq_bind, Option.bind_eq_some_iff, Option.pure_def, Option.some.injEq] at h
    obtain ⟨v0, h0, r1, ⟨v1, h1, r2, ⟨v2, h2, r3, rfl, rfl⟩, rfl⟩, rfl⟩ := h
    exact ⟨v0, v1, v2, rfl, h0, h1, h2⟩
  · cases h

set_option maxRecDepth 100000 in
/-- One instruction's cells. -/
theorem open_ins {H : Type} {enc : TypeId × Value → H} {w : World} {base : Nat} {spare : Nat → Bool} {held : Bool} {fuel : Nat} {cs : List Value} {x : DataW H × List MemPlace}
    (h : DataW.trod enc Tryd.prog w base spare held fuel 94 cs = some x) : ∃ i : Ins, cs = [.int .i64 i.op, .string i.s, .int .i64 i.n] ∧ i.s.size ≤ maxLen := by
  obtain ⟨y0, y1, y2, n, _, hl, h0, h1, h2⟩ := trod_struct3 Tryd.underlying94 h
  rw [cells52] at hl
  match cs, hl with
  | [a, b, c], _ =>
    simp only [cells3, cells9] at h0 h1 h2
    obtain ⟨op, e0, _, _⟩ := DataW.trod_int Tryd.underlying3 h0
    obtain ⟨s, e1, _, hs⟩ := DataW.trod_string Tryd.underlying9 h1
    obtain ⟨n, e2, _, _⟩ := DataW.trod_int Tryd.underlying3 h2
    simp at e0 e1 e2
    exact ⟨⟨op, s, n⟩, by rw [e0, e1, e2], hs⟩

set_option maxRecDepth 100000 in
theorem open_program {H : Type} {enc : TypeId × Value → H} {W : World} {base : Nat} {v : Value} {d : DataW H} {p : List MemPlace} (hv : Value.okWide Tryd.prog W .any base 55 v)
    (h : DataW.Trod enc Tryd.prog W 0 (fun _ => true) true 55 v d p) :
    ∃ a n cap, ∃ f : Nat → Ins, v = .agg #[.slice a n cap] ∧ (n : Int) ≤ 9223372036854775807 ∧ SlIns W a n f ∧ ∀ i, i < n → (f i).s.size ≤ maxLen := by
  obtain ⟨cs, rfl, hsz⟩ := okWide_struct Tryd.underlying55 hv
  rw [cells24] at hsz
  obtain ⟨⟨c⟩⟩ := cs
  · simp at hsz
  rename_i c rest
  obtain rfl : rest = [] := by simpa using hsz
  obtain ⟨fuel, hf⟩ := h
  obtain ⟨y0, n, hx, _, h0⟩ := trod_struct1 Tryd.underlying55 hf
  simp only [Value.cells, cells22] at h0
  rcases open_slice Tryd.underlying53 h0 with ⟨hc, _⟩ | ⟨a, len, cap, m, k, D, Pl, hc, hb, hl, hm, hmm, _, hel⟩
  · simp at hc
    subst hc
    exact ⟨none, 0, 0, fun _ => ⟨0, ⟨#[]⟩, 0⟩, rfl, by omega, .inl rfl, fun i hi => absurd hi (Nat.not_lt_zero _)⟩
  · simp at hc
    subst hc
    have hmm' : m = cap := by simpa using hmm
    subst hmm'
    have hlen : (len : Int) ≤ 9223372036854775807 := by unfold maxLen at hm; omega
    have each : ∀ i, i < len → ∃ x : Ins, (W.cell? (a.add (i * 3)) = some (.int .i64 x.op) ∧ W.cell? (a.add (i * 3 + 1)) = some (.string x.s) ∧ W.cell? (a.add (i * 3 + 2)) = some (.int .i64 x.n)) ∧ x.s.size ≤ maxLen := by
      intro i hi
      obtain ⟨cs', h1, h2⟩ := hel i (by omega)
      rw [cells52] at h1
      obtain ⟨v0, v1, v2, rfl, g0, g1, g2⟩ := cells?_three h1
      obtain ⟨x, ex, hs⟩ := open_ins h2
      simp only [List.cons.injEq, and_true] at ex
      obtain ⟨rfl, rfl, rfl⟩ := ex
      rw [add_add] at g0 g1 g2
      exact ⟨x, ⟨g0, g1, g2⟩, hs⟩
    by_cases hz : len = 0
    · subst hz
      exact ⟨_, 0, m, fun _ => ⟨0, ⟨#[]⟩, 0⟩, rfl, by omega, .inl rfl, fun i hi => absurd hi (Nat.not_lt_zero _)⟩
    · have : Inhabited Ins := ⟨⟨0, ⟨#[]⟩, 0⟩⟩
      obtain ⟨f, hf⟩ := choose_lt each
      obtain ⟨b, off, spot⟩ := a
      have hspot : spot = none := by simpa [Addr.add] using World.cell?_spot (hf 0 (by omega)).1.1
      subst hspot
      have hrow : ∀ i, i < len → AtIns W b off i (f i) := fun i hi => by
        obtain ⟨⟨g0, g1, g2⟩, _⟩ := hf i hi
        rw [add_plain] at g0 g1 g2
        exact ⟨g0, g1, g2⟩
      refine ⟨_, len, m, f, rfl, hlen, .inr ⟨b, off, rfl, ?_, hrow⟩, fun i hi => (hf i hi).2⟩
      have hc0 := (hrow 0 (by omega)).1
      rcases Nat.lt_or_ge b W.heap.size with h' | h'
      · exact h'
      · simp [World.cell?, Array.getElem?_eq_none h'] at hc0

end Go.Proofs.YtolpgafkojlkoabDoor.Vp
