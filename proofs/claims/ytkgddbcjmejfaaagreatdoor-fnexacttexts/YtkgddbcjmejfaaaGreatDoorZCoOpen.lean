/-
  Lists of accounts opened.
-/
import Derived.Test.YtkgddbcjmejfaaaGreatDoorZCaOpen
import Derived.Test.YtkgddbcjmejfaaaGreatDoorZI
namespace Go.Proofs.YtkgddbcjmejfaaaGreatDoor.Vp
open Go.ChangeShapes Go.WideShapes Go.ChangeAt Go.RowKit Go.Deep Go.Joins

theorem cells?_one {w : World} {base : Nat} {a : Addr} {cs : List Value} (h : w.cells? base a 1 = some cs) : ∃ v0, cs = [v0] ∧ w.cell? (a.add 0) = some v0 := by
  unfold World.cells? at h
  split at h
  · simp only [show List.range 1 = [0] from rfl, List.mapM_cons, List.mapM_nil, Option.bind_eq_bind, Option.bind_eq_some_iff, Option.pure_def, Option.some.injEq] at h
    obtain ⟨v0, h0, r1, rfl, rfl⟩ := h
    exact ⟨v0, rfl, h0⟩
  · cases h

set_option maxRecDepth 100000 in
theorem open_accRow {H : Type} {enc : TypeId × Value → H} {W : World} {held : Bool} {fuel : Nat} {c : Value} {x : DataW H × List MemPlace} (h : DataW.trod enc Tryz.prog W 0 (fun _ => true) held fuel 22 [c] = some x) :
    ∃ a m cap, ∃ F : Nat → Acc, c = .slice a m cap ∧ (m : Int) ≤ 9223372036854775807 ∧ SlAcc W a m F ∧ ∀ i, i < m → SizedAcc (F i) := by
  rcases open_slice Tryz.underlying22 h with ⟨hc, _⟩ | ⟨a, len, cap, m, k, D, Pl, hc, hb, hl, hm, hmm, _, hel⟩
  · simp at hc
    subst hc
    exact ⟨none, 0, 0, fun _ => ⟨0, fun _ => ⟨⟨#[]⟩, 0, 0, ⟨#[]⟩, 0, fun _ => ⟨0, ⟨#[]⟩, 0⟩, 0, fun _ => ⟨⟨#[]⟩, false, false, 0⟩⟩⟩, rfl, by omega, .inl rfl, fun i hi => absurd hi (Nat.not_lt_zero _)⟩
  · simp at hc
    subst hc
    have hmm' : m = cap := by simpa using hmm
    subst hmm'
    have hlen : (len : Int) ≤ 9223372036854775807 := by unfold maxLen at hm; omega
    have each : ∀ i, i < len → ∃ x : Acc, (∃ (a2 : Option Addr) (cap2 : Nat), W.cell? (a.add i) = some (.slice a2 x.n cap2) ∧ SlDeed W a2 x.n x.f) ∧ SizedAcc x := by
      intro i hi
      obtain ⟨cs', h1, h2⟩ := hel i (by omega)
      rw [cellsAccount] at h1
      obtain ⟨v0, rfl, g0⟩ := cells?_one h1
      obtain ⟨y0, n, _, _, h0⟩ := trod_struct1 Tryz.underlying35 h2
      simp only [cellsDeeds] at h0
      simp at h0
      obtain ⟨a0, n0, k0, f0, rfl, e0, s0, z0⟩ := open_deeds h0
      rw [add_add] at g0
      simp at g0
      exact ⟨⟨n0, f0⟩, ⟨a0, k0, g0, s0⟩, e0, z0⟩
    by_cases hz : len = 0
    · subst hz
      exact ⟨_, 0, m, fun _ => ⟨0, fun _ => ⟨⟨#[]⟩, 0, 0, ⟨#[]⟩, 0, fun _ => ⟨0, ⟨#[]⟩, 0⟩, 0, fun _ => ⟨⟨#[]⟩, false, false, 0⟩⟩⟩, rfl, by omega, .inl rfl, fun i hi => absurd hi (Nat.not_lt_zero _)⟩
    · have : Inhabited Acc := ⟨⟨0, fun _ => ⟨⟨#[]⟩, 0, 0, ⟨#[]⟩, 0, fun _ => ⟨0, ⟨#[]⟩, 0⟩, 0, fun _ => ⟨⟨#[]⟩, false, false, 0⟩⟩⟩⟩
      obtain ⟨f, hf⟩ := choose_lt each
      obtain ⟨b, off, spot⟩ := a
      have hspot : spot = none := by
        obtain ⟨⟨a2, cap2, h1, _⟩, _⟩ := hf 0 (by omega)
        simpa [Addr.add] using World.cell?_spot h1
      subst hspot
      have hrow : ∀ i, i < len → AtAcc W b off i (f i) := fun i hi => by
        obtain ⟨hp, _⟩ := hf i hi
        simp only [add_plain] at hp
        exact hp
      refine ⟨_, len, m, f, rfl, hlen, .inr ⟨b, off, rfl, ?_, hrow⟩, fun i hi => (hf i hi).2⟩
      obtain ⟨a2, cap2, hc0, _⟩ := hrow 0 (by omega)
      rcases Nat.lt_or_ge b W.heap.size with h' | h'
      · exact h'
      · simp [World.cell?, Array.getElem?_eq_none h'] at hc0
set_option maxRecDepth 100000 in
theorem open_accounts {H : Type} {enc : TypeId × Value → H} {W : World} {base : Nat} {v : Value} {d : DataW H} {p : List MemPlace} (hv : Value.okWide Tryz.prog W .any base 22 v)
    (h : DataW.Trod enc Tryz.prog W 0 (fun _ => true) true 22 v d p) :
    ∃ a m cap, ∃ F : Nat → Acc, v = .slice a m cap ∧ (m : Int) ≤ 9223372036854775807 ∧ SlAcc W a m F ∧ ∀ i, i < m → SizedAcc (F i) := by
  obtain ⟨a0, n0, c0, rfl⟩ := okWide_slice Tryz.underlying22 hv
  obtain ⟨fuel, hf⟩ := h
  exact open_accRow (c := .slice a0 n0 c0) (by simpa [Value.cells] using hf)

end Go.Proofs.YtkgddbcjmejfaaaGreatDoor.Vp
