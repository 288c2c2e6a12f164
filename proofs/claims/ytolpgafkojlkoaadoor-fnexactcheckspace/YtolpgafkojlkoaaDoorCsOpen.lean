/-
  Spaces opened.
-/
import Derived.Test.YtolpgafkojlkoaaDoorDSpace
import Derived.Test.YtolpgafkojlkoaaDoorVpOpen
import Derived.Test.YtolpgafkojlkoaaDoorInsOpen
import Derived.Test.YtolpgafkojlkoaaDoorTie
import Derived.Deep.DeepHandedRow
import Derived.Lib.SmallJoins
namespace Go.Proofs.YtolpgafkojlkoaaDoor.Vp
open Go.ChangeShapes Go.WideShapes Go.ChangeAt Go.RowKit Go.Deep

theorem cellsSource : Tryd.prog.cellsOf 109 = 2 := by kernel_rfl
theorem cellsTarget : Tryd.prog.cellsOf 112 = 2 := by kernel_rfl
theorem cellsSpace : Tryd.prog.cellsOf 40 = 2 := by kernel_rfl
theorem cellsSources : Tryd.prog.cellsOf 37 = 1 := by kernel_rfl
theorem cellsTargets : Tryd.prog.cellsOf 38 = 1 := by kernel_rfl

/-- Two cells in a row. -/
theorem cells?_two {w : World} {base : Nat} {a : Addr} {cs : List Value} (h : w.cells? base a 2 = some cs) :
    ∃ v0 v1, cs = [v0, v1] ∧ w.cell? (a.add 0) = some v0 ∧ w.cell? (a.add 1) = some v1 := by
  unfold World.cells? at h
  split at h
  · simp only [show List.range 2 = [0, 1] from rfl, List.mapM_cons, List.mapM_nil, Option.bind_eq_bind, Option.bind_eq_some_iff, Option.pure_def, Option.some.injEq] at h
    obtain ⟨v0, h0, r1, ⟨v1, h1, r2, rfl, rfl⟩, rfl⟩ := h
    exact ⟨v0, v1, rfl, h0, h1⟩
  · cases h


set_option maxRecDepth 100000 in
theorem open_source {H : Type} {enc : TypeId × Value → H} {w : World} {base : Nat} {spare : Nat → Bool} {held : Bool} {fuel : Nat} {cs : List Value} {x : DataW H × List MemPlace}
    (h : DataW.trod enc Tryd.prog w base spare held fuel 109 cs = some x) : ∃ i : Source, cs = [.string i.name, .string i.text] ∧ (i.name.size ≤ maxLen ∧ i.text.size ≤ maxLen) := by
  obtain ⟨y0, y1, n, _, hl, h0, h1⟩ := trod_struct2 Tryd.underlying109 h
  rw [cellsSource] at hl
  match cs, hl with
  | [a, b], _ =>
    simp only [cells9] at h0 h1
    obtain ⟨s, e0, _, hs⟩ := DataW.trod_string Tryd.underlying9 h0
    obtain ⟨t, e1, _, ht⟩ := DataW.trod_string Tryd.underlying9 h1
    simp at e0 e1
    exact ⟨⟨s, t⟩, by rw [e0, e1], hs, ht⟩

set_option maxRecDepth 100000 in
theorem open_sources {H : Type} {enc : TypeId × Value → H} {W : World} {held : Bool} {fuel : Nat} {c : Value} {x : DataW H × List MemPlace} (h : DataW.trod enc Tryd.prog W 0 (fun _ => true) held fuel 37 [c] = some x) :
    ∃ a n cap, ∃ f : Nat → Source, c = .slice a n cap ∧ (n : Int) ≤ 9223372036854775807 ∧ SlSource W a n f ∧ ∀ i, i < n → ((f i).name.size ≤ maxLen ∧ (f i).text.size ≤ maxLen) := by
  rcases open_slice Tryd.underlying37 h with ⟨hc, _⟩ | ⟨a, len, cap, m, k, D, Pl, hc, hb, hl, hm, hmm, _, hel⟩
  · simp at hc
    subst hc
    exact ⟨none, 0, 0, fun _ => ⟨⟨#[]⟩, ⟨#[]⟩⟩, rfl, by omega, .inl rfl, fun i hi => absurd hi (Nat.not_lt_zero _)⟩
  · simp at hc
    subst hc
    have hmm' : m = cap := by simpa using hmm
    subst hmm'
    have hlen : (len : Int) ≤ 9223372036854775807 := by unfold maxLen at hm; omega
    have each : ∀ i, i < len → ∃ x : Source, (W.cell? (a.add (i * 2)) = some (.string x.name) ∧ W.cell? (a.add (i * 2 + 1)) = some (.string x.text)) ∧ (x.name.size ≤ maxLen ∧ x.text.size ≤ maxLen) := by
      intro i hi
      obtain ⟨cs', h1, h2⟩ := hel i (by omega)
      rw [cellsSource] at h1
      obtain ⟨v0, v1, rfl, g0, g1⟩ := cells?_two h1
      obtain ⟨x, ex, hs⟩ := open_source h2
      simp only [List.cons.injEq, and_true] at ex
      obtain ⟨rfl, rfl⟩ := ex
      rw [add_add] at g0 g1
      exact ⟨x, ⟨g0, g1⟩, hs⟩
    by_cases hz : len = 0
    · subst hz
      exact ⟨_, 0, m, fun _ => ⟨⟨#[]⟩, ⟨#[]⟩⟩, rfl, by omega, .inl rfl, fun i hi => absurd hi (Nat.not_lt_zero _)⟩
    · have : Inhabited Source := ⟨⟨⟨#[]⟩, ⟨#[]⟩⟩⟩
      obtain ⟨f, hf⟩ := choose_lt each
      obtain ⟨b, off, spot⟩ := a
      have hspot : spot = none := by simpa [Addr.add] using World.cell?_spot (hf 0 (by omega)).1.1
      subst hspot
      have hrow : ∀ i, i < len → AtSource W b off i (f i) := fun i hi => by
        obtain ⟨hp, _⟩ := hf i hi
        simp only [add_plain] at hp
        exact hp
      refine ⟨_, len, m, f, rfl, hlen, .inr ⟨b, off, rfl, ?_, hrow⟩, fun i hi => (hf i hi).2⟩
      have hc0 := (hrow 0 (by omega)).1
      rcases Nat.lt_or_ge b W.heap.size with h' | h'
      · exact h'
      · simp [World.cell?, Array.getElem?_eq_none h'] at hc0


set_option maxRecDepth 100000 in
theorem open_target {H : Type} {enc : TypeId × Value → H} {W : World} {held : Bool} {fuel : Nat} {cs : List Value} {x : DataW H × List MemPlace}
    (h : DataW.trod enc Tryd.prog W 0 (fun _ => true) held fuel 112 cs = some x) : ∃ (i : Target) (a : Option Addr) (cap : Nat), cs = [.string i.name, .slice a i.actN cap] ∧ SlIns W a i.actN i.act ∧ SizedTarget i := by
  obtain ⟨y0, y1, n, _, hl, h0, h1⟩ := trod_struct2 Tryd.underlying112 h
  rw [cellsTarget] at hl
  match cs, hl with
  | [c0, c1], _ =>
    simp only [cells9, cells24] at h0 h1
    obtain ⟨s, e0, _, hs⟩ := DataW.trod_string Tryd.underlying9 h0
    obtain ⟨z0, n2, _, _, h2⟩ := trod_struct1 Tryd.underlying52 h1
    simp only [cells22] at h2
    simp at e0 h2
    obtain ⟨a, m, cap, f, rfl, hm, hS, hz⟩ := open_insRow h2
    exact ⟨⟨s, m, f⟩, a, cap, by rw [e0], hS, hs, hm, hz⟩

set_option maxRecDepth 100000 in
theorem open_targets {H : Type} {enc : TypeId × Value → H} {W : World} {held : Bool} {fuel : Nat} {c : Value} {x : DataW H × List MemPlace} (h : DataW.trod enc Tryd.prog W 0 (fun _ => true) held fuel 38 [c] = some x) :
    ∃ a n cap, ∃ f : Nat → Target, c = .slice a n cap ∧ (n : Int) ≤ 9223372036854775807 ∧ SlTarget W a n f ∧ ∀ i, i < n → SizedTarget (f i) := by
  rcases open_slice Tryd.underlying38 h with ⟨hc, _⟩ | ⟨a, len, cap, m, k, D, Pl, hc, hb, hl, hm, hmm, _, hel⟩
  · simp at hc
    subst hc
    exact ⟨none, 0, 0, fun _ => ⟨⟨#[]⟩, 0, fun _ => ⟨0, ⟨#[]⟩, 0⟩⟩, rfl, by omega, .inl rfl, fun i hi => absurd hi (Nat.not_lt_zero _)⟩
  · simp at hc
    subst hc
    have hmm' : m = cap := by simpa using hmm
    subst hmm'
    have hlen : (len : Int) ≤ 9223372036854775807 := by unfold maxLen at hm; omega
    have each : ∀ i, i < len → ∃ x : Target, (W.cell? (a.add (i * 2)) = some (.string x.name) ∧ ∃ (a2 : Option Addr) (cap2 : Nat), W.cell? (a.add (i * 2 + 1)) = some (.slice a2 x.actN cap2) ∧ SlIns W a2 x.actN x.act) ∧ SizedTarget x := by
      intro i hi
      obtain ⟨cs', h1, h2⟩ := hel i (by omega)
      rw [cellsTarget] at h1
      obtain ⟨v0, v1, rfl, g0, g1⟩ := cells?_two h1
      obtain ⟨x, a2, cap2, ex, hS, hs⟩ := open_target h2
      simp only [List.cons.injEq, and_true] at ex
      obtain ⟨rfl, rfl⟩ := ex
      rw [add_add] at g0 g1
      exact ⟨x, ⟨g0, a2, cap2, g1, hS⟩, hs⟩
    by_cases hz : len = 0
    · subst hz
      exact ⟨_, 0, m, fun _ => ⟨⟨#[]⟩, 0, fun _ => ⟨0, ⟨#[]⟩, 0⟩⟩, rfl, by omega, .inl rfl, fun i hi => absurd hi (Nat.not_lt_zero _)⟩
    · have : Inhabited Target := ⟨⟨⟨#[]⟩, 0, fun _ => ⟨0, ⟨#[]⟩, 0⟩⟩⟩
      obtain ⟨f, hf⟩ := choose_lt each
      obtain ⟨b, off, spot⟩ := a
      have hspot : spot = none := by simpa [Addr.add] using World.cell?_spot (hf 0 (by omega)).1.1
      subst hspot
      have hrow : ∀ i, i < len → AtTarget W b off i (f i) := fun i hi => by
        obtain ⟨hp, _⟩ := hf i hi
        simp only [add_plain] at hp
        exact hp
      refine ⟨_, len, m, f, rfl, hlen, .inr ⟨b, off, rfl, ?_, hrow⟩, fun i hi => (hf i hi).2⟩
      have hc0 := (hrow 0 (by omega)).1
      rcases Nat.lt_or_ge b W.heap.size with h' | h'
      · exact h'
      · simp [World.cell?, Array.getElem?_eq_none h'] at hc0


set_option maxRecDepth 100000 in
theorem open_space {H : Type} {enc : TypeId × Value → H} {W : World} {base : Nat} {v : Value} {d : DataW H} {p : List MemPlace} (hv : Value.okWide Tryd.prog W .any base 40 v)
    (h : DataW.Trod enc Tryd.prog W 0 (fun _ => true) true 40 v d p) :
    ∃ a0 n0 c0 f0 a1 n1 c1 f1, v = .agg #[.slice a0 n0 c0, .slice a1 n1 c1] ∧ (n0 : Int) ≤ 9223372036854775807 ∧ (n1 : Int) ≤ 9223372036854775807 ∧ SlSource W a0 n0 f0 ∧ (∀ i, i < n0 → (f0 i).name.size ≤ maxLen ∧ (f0 i).text.size ≤ maxLen) ∧ SlTarget W a1 n1 f1 ∧ ∀ i, i < n1 → SizedTarget (f1 i) := by
  obtain ⟨cs, rfl, hsz⟩ := okWide_struct Tryd.underlying40 hv
  rw [cellsSpace] at hsz
  obtain ⟨l⟩ := cs
  match l, hsz with
  | [c0, c1], _ =>
    obtain ⟨fuel, hf⟩ := h
    obtain ⟨y0, y1, n, _, _, h0, h1⟩ := trod_struct2 Tryd.underlying40 hf
    simp only [Value.cells, cellsSources, cellsTargets] at h0 h1
    simp at h0 h1
    obtain ⟨a0, n0, k0, f0, rfl, e0, s0, z0⟩ := open_sources h0
    obtain ⟨a1, n1, k1, f1, rfl, e1, s1, z1⟩ := open_targets h1
    exact ⟨a0, n0, k0, f0, a1, n1, k1, f1, rfl, e0, e1, s0, z0, s1, z1⟩

end Go.Proofs.YtolpgafkojlkoaaDoor.Vp
