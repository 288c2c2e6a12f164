/-
  A slice of instructions, out of a reading.
-/
import Derived.Test.YtolpgafkojlkoabDoorDIns
import Derived.Test.YtolpgafkojlkoabDoorVpOpen
import Derived.Test.YtolpgafkojlkoabDoorTie
import Derived.Deep.DeepHandedRow
import Derived.Lib.SmallJoins
namespace Go.Proofs.YtolpgafkojlkoabDoor.Vp
open Go.ChangeShapes Go.WideShapes Go.ChangeAt Go.RowKit Go.Deep

set_option maxRecDepth 100000 in
theorem open_insRow {H : Type} {enc : TypeId × Value → H} {W : World} {held : Bool} {fuel : Nat} {c : Value} {x : DataW H × List MemPlace} (h : DataW.trod enc Tryd.prog W 0 (fun _ => true) held fuel 53 [c] = some x) :
    ∃ a n cap, ∃ f : Nat → Ins, c = .slice a n cap ∧ (n : Int) ≤ 9223372036854775807 ∧ SlIns W a n f ∧ ∀ i, i < n → (f i).s.size ≤ maxLen := by
  rcases open_slice Tryd.underlying53 h with ⟨hc, _⟩ | ⟨a, len, cap, m, k, D, Pl, hc, hb, hl, hm, hmm, _, hel⟩
  · simp at hc
    subst hc
    exact ⟨none, 0, 0, fun _ => ⟨0, ⟨#[]⟩, 0⟩, rfl, by omega, .inl rfl, fun i hi => absurd hi (Nat.not_lt_zero _)⟩
  · simp at hc
    subst hc
    have hmm' : m = cap := by simpa using hmm
    subst hmm'
    have hlen : (len : Int) ≤ 9223372036854775807 := by unfold maxLen at hm; omega
    have each : ∀ i, i < len → ∃ x : Ins, (W.cell? (a.add (i * 3)) = some (.int .i64 x.op) ∧ W.cell? (a.add (i * 3 + 1)) = some (.string x.s) ∧ W.cell? (a.add (i * 3 + 2)) = some (.int .i64 x.n)) ∧ x.s.size ≤ maxLen := by
      intro i hi
      obtain ⟨cs', h1, h2⟩ := hel i (by omega)
      rw [cells52] at h1
      obtain ⟨v0, v1, v2, rfl, g0, g1, g2⟩ := cells?_three h1
      obtain ⟨x, ex, hs⟩ := open_ins h2
      simp only [List.cons.injEq, and_true] at ex
      obtain ⟨rfl, rfl, rfl⟩ := ex
      rw [add_add] at g0 g1 g2
      exact ⟨x, ⟨g0, g1, g2⟩, hs⟩
    by_cases hz : len = 0
    · subst hz
      exact ⟨_, 0, m, fun _ => ⟨0, ⟨#[]⟩, 0⟩, rfl, by omega, .inl rfl, fun i hi => absurd hi (Nat.not_lt_zero _)⟩
    · have : Inhabited Ins := ⟨⟨0, ⟨#[]⟩, 0⟩⟩
      obtain ⟨f, hf⟩ := choose_lt each
      obtain ⟨b, off, spot⟩ := a
      have hspot : spot = none := by simpa [Addr.add] using World.cell?_spot (hf 0 (by omega)).1.1
      subst hspot
      have hrow : ∀ i, i < len → AtIns W b off i (f i) := fun i hi => by
        obtain ⟨hp, _⟩ := hf i hi
        simp only [add_plain] at hp
        exact hp
      refine ⟨_, len, m, f, rfl, hlen, .inr ⟨b, off, rfl, ?_, hrow⟩, fun i hi => (hf i hi).2⟩
      have hc0 := (hrow 0 (by omega)).1
      rcases Nat.lt_or_ge b W.heap.size with h' | h'
      · exact h'
      · simp [World.cell?, Array.getElem?_eq_none h'] at hc0



end Go.Proofs.YtolpgafkojlkoabDoor.Vp
