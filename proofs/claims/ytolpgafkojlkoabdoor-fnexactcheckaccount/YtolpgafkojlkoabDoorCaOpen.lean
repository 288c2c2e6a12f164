/-
  Accounts opened. Written by tools/caopen.py.
-/
import Derived.Test.YtolpgafkojlkoabDoorDAccount
import Derived.Test.YtolpgafkojlkoabDoorVpOpen
import Derived.Test.YtolpgafkojlkoabDoorInsOpen
import Derived.Test.YtolpgafkojlkoabDoorTie
import Derived.Deep.DeepHandedRow
import Derived.Lib.SmallJoins
namespace Go.Proofs.YtolpgafkojlkoabDoor.Vp
open Go.ChangeShapes Go.WideShapes Go.ChangeAt Go.RowKit Go.Deep Go.Joins

theorem cells4 : Tryd.prog.cellsOf 4 = 1 := by kernel_rfl
theorem cellsLink : Tryd.prog.cellsOf 83 = 4 := by kernel_rfl
theorem cellsDeed : Tryd.prog.cellsOf 58 = 6 := by kernel_rfl
theorem cellsLinks : Tryd.prog.cellsOf 56 = 1 := by kernel_rfl
theorem cellsDeeds : Tryd.prog.cellsOf 22 = 1 := by kernel_rfl
theorem cellsAccount : Tryd.prog.cellsOf 24 = 1 := by kernel_rfl

/-- Four cells in a row. -/
theorem cells?_four {w : World} {base : Nat} {a : Addr} {cs : List Value} (h : w.cells? base a 4 = some cs) :
    ∃ v0 v1 v2 v3, cs = [v0, v1, v2, v3] ∧ w.cell? (a.add 0) = some v0 ∧ w.cell? (a.add 1) = some v1 ∧ w.cell? (a.add 2) = some v2 ∧ w.cell? (a.add 3) = some v3 := by
  unfold World.cells? at h
  split at h
  · simp only [show List.range 4 = [0, 1, 2, 3] from rfl, List.mapM_cons, List.mapM_nil, Option.bind_eq_bind, Option.bind_eq_some_iff, Option.pure_def, Option.some.injEq] at h
    obtain ⟨v0, h0, r1, ⟨v1, h1, r2, ⟨v2, h2, r3, ⟨v3, h3, r4, rfl, rfl⟩, rfl⟩, rfl⟩, rfl⟩ := h
    exact ⟨v0, v1, v2, v3, rfl, h0, h1, h2, h3⟩
  · cases h
/-- Six cells in a row. -/
theorem cells?_six {w : World} {base : Nat} {a : Addr} {cs : List Value} (h : w.cells? base a 6 = some cs) :
    ∃ v0 v1 v2 v3 v4 v5, cs = [v0, v1, v2, v3, v4, v5] ∧ w.cell? (a.add 0) = some v0 ∧ w.cell? (a.add 1) = some v1 ∧ w.cell? (a.add 2) = some v2 ∧ w.cell? (a.add 3) = some v3 ∧ w.cell? (a.add 4) = some v4 ∧ w.cell? (a.add 5) = some v5 := by
  unfold World.cells? at h
  split at h
  · simp only [show List.range 6 = [0, 1, 2, 3, 4, 5] from rfl, List.mapM_cons, List.mapM_nil, Option.bind_eq_bind, Option.bind_eq_some_iff, Option.pure_def, Option.some.injEq] at h
    obtain ⟨v0, h0, r1, ⟨v1, h1, r2, ⟨v2, h2, r3, ⟨v3, h3, r4, ⟨v4, h4, r5, ⟨v5, h5, r6, rfl, rfl⟩, rfl⟩, rfl⟩, rfl⟩, rfl⟩, rfl⟩ := h
    exact ⟨v0, v1, v2, v3, v4, v5, rfl, h0, h1, h2, h3, h4, h5⟩
  · cases h
theorem trod_struct6 {H : Type} {enc : TypeId × Value → H} {P : Program} {w : World} {base : Nat} {spare : Nat → Bool} {held : Bool} {t : TypeId} {f0 f1 f2 f3 f4 f5 : Field} {fuel : Nat} {cs : List Value} {x : DataW H × List MemPlace} (ht : P.underlying t = some (.struct #[f0, f1, f2, f3, f4, f5])) (h : DataW.trod enc P w base spare held fuel t cs = some x) :
    ∃ y0 y1 y2 y3 y4 y5 n, cs.length = P.cellsOf t ∧ DataW.trod enc P w base spare held n f0.type ((cs.drop f0.offset).take (P.cellsOf f0.type)) = some y0 ∧ DataW.trod enc P w base spare held n f1.type ((cs.drop f1.offset).take (P.cellsOf f1.type)) = some y1 ∧ DataW.trod enc P w base spare held n f2.type ((cs.drop f2.offset).take (P.cellsOf f2.type)) = some y2 ∧ DataW.trod enc P w base spare held n f3.type ((cs.drop f3.offset).take (P.cellsOf f3.type)) = some y3 ∧ DataW.trod enc P w base spare held n f4.type ((cs.drop f4.offset).take (P.cellsOf f4.type)) = some y4 ∧ DataW.trod enc P w base spare held n f5.type ((cs.drop f5.offset).take (P.cellsOf f5.type)) = some y5 := by
  obtain ⟨xs, n, _, rfl, hl, hlen, hf⟩ := DataW.trod_struct ht h
  match xs, hlen with
  | [y0, y1, y2, y3, y4, y5], _ => exact ⟨y0, y1, y2, y3, y4, y5, n, hl, by simpa using hf 0 f0 rfl, by simpa using hf 1 f1 rfl, by simpa using hf 2 f2 rfl, by simpa using hf 3 f3 rfl, by simpa using hf 4 f4 rfl, by simpa using hf 5 f5 rfl⟩


set_option maxRecDepth 100000 in
theorem open_link {H : Type} {enc : TypeId × Value → H} {w : World} {base : Nat} {spare : Nat → Bool} {held : Bool} {fuel : Nat} {cs : List Value} {x : DataW H × List MemPlace}
    (h : DataW.trod enc Tryd.prog w base spare held fuel 83 cs = some x) : ∃ i : Link, cs = [.string i.name, .bool i.ask, .bool i.has, .int .i64 i.at_] ∧ i.name.size ≤ maxLen := by
  obtain ⟨y0, y1, y2, y3, n, _, hl, h0, h1, h2, h3⟩ := trod_struct4 Tryd.underlying83 h
  rw [cellsLink] at hl
  match cs, hl with
  | [a, b, c, d], _ =>
    simp only [cells3, cells4, cells9] at h0 h1 h2 h3
    obtain ⟨s, e0, _, hs⟩ := DataW.trod_string Tryd.underlying9 h0
    obtain ⟨k, e1, _⟩ := DataW.trod_bool Tryd.underlying4 h1
    obtain ⟨l, e2, _⟩ := DataW.trod_bool Tryd.underlying4 h2
    obtain ⟨m, e3, _, _⟩ := DataW.trod_int Tryd.underlying3 h3
    simp at e0 e1 e2 e3
    exact ⟨⟨s, k, l, m⟩, by rw [e0, e1, e2, e3], hs⟩

set_option maxRecDepth 100000 in
theorem open_links {H : Type} {enc : TypeId × Value → H} {W : World} {held : Bool} {fuel : Nat} {c : Value} {x : DataW H × List MemPlace} (h : DataW.trod enc Tryd.prog W 0 (fun _ => true) held fuel 56 [c] = some x) :
    ∃ a n cap, ∃ f : Nat → Link, c = .slice a n cap ∧ (n : Int) ≤ 9223372036854775807 ∧ SlLink W a n f ∧ ∀ i, i < n → (f i).name.size ≤ maxLen := by
  rcases open_slice Tryd.underlying56 h with ⟨hc, _⟩ | ⟨a, len, cap, m, k, D, Pl, hc, hb, hl, hm, hmm, _, hel⟩
  · simp at hc
    subst hc
    exact ⟨none, 0, 0, fun _ => ⟨⟨#[]⟩, false, false, 0⟩, rfl, by omega, .inl rfl, fun i hi => absurd hi (Nat.not_lt_zero _)⟩
  · simp at hc
    subst hc
    have hmm' : m = cap := by simpa using hmm
    subst hmm'
    have hlen : (len : Int) ≤ 9223372036854775807 := by unfold maxLen at hm; omega
    have each : ∀ i, i < len → ∃ x : Link, (W.cell? (a.add (i * 4)) = some (.string x.name) ∧ W.cell? (a.add (i * 4 + 1)) = some (.bool x.ask) ∧ W.cell? (a.add (i * 4 + 2)) = some (.bool x.has) ∧ W.cell? (a.add (i * 4 + 3)) = some (.int .i64 x.at_)) ∧ x.name.size ≤ maxLen := by
      intro i hi
      obtain ⟨cs', h1, h2⟩ := hel i (by omega)
      rw [cellsLink] at h1
      obtain ⟨v0, v1, v2, v3, rfl, g0, g1, g2, g3⟩ := cells?_four h1
      obtain ⟨x, ex, hs⟩ := open_link h2
      simp only [List.cons.injEq, and_true] at ex
      obtain ⟨rfl, rfl, rfl, rfl⟩ := ex
      rw [add_add] at g0 g1 g2 g3
      exact ⟨x, ⟨g0, g1, g2, g3⟩, hs⟩
    by_cases hz : len = 0
    · subst hz
      exact ⟨_, 0, m, fun _ => ⟨⟨#[]⟩, false, false, 0⟩, rfl, by omega, .inl rfl, fun i hi => absurd hi (Nat.not_lt_zero _)⟩
    · have : Inhabited Link := ⟨⟨⟨#[]⟩, false, false, 0⟩⟩
      obtain ⟨f, hf⟩ := choose_lt each
      obtain ⟨b, off, spot⟩ := a
      have hspot : spot = none := by simpa [Addr.add] using World.cell?_spot (hf 0 (by omega)).1.1
      subst hspot
      have hrow : ∀ i, i < len → AtLink W b off i (f i) := fun i hi => by
        obtain ⟨hp, _⟩ := hf i hi
        simp only [add_plain] at hp
        exact hp
      refine ⟨_, len, m, f, rfl, hlen, .inr ⟨b, off, rfl, ?_, hrow⟩, fun i hi => (hf i hi).2⟩
      have hc0 := (hrow 0 (by omega)).1
      rcases Nat.lt_or_ge b W.heap.size with h' | h'
      · exact h'
      · simp [World.cell?, Array.getElem?_eq_none h'] at hc0


set_option maxRecDepth 100000 in
theorem open_deed {H : Type} {enc : TypeId × Value → H} {W : World} {held : Bool} {fuel : Nat} {cs : List Value} {x : DataW H × List MemPlace}
    (h : DataW.trod enc Tryd.prog W 0 (fun _ => true) held fuel 58 cs = some x) : ∃ (i : Deed) (a0 : Option Addr) (cap0 : Nat) (a1 : Option Addr) (cap1 : Nat), cs = [.string i.name, .int .i64 i.kind, .int .i64 i.code, .string i.text, .slice a0 i.actN cap0, .slice a1 i.linksN cap1] ∧ SlIns W a0 i.actN i.act ∧ SlLink W a1 i.linksN i.links ∧ SizedDeed i := by
  obtain ⟨y0, y1, y2, y3, y4, y5, n, hl, h0, h1, h2, h3, h4, h5⟩ := trod_struct6 Tryd.underlying58 h
  rw [cellsDeed] at hl
  match cs, hl with
  | [c0, c1, c2, c3, c4, c5], _ =>
    simp only [cells3, cells9, cells24, cellsLinks] at h0 h1 h2 h3 h4 h5
    obtain ⟨s, e0, _, hs⟩ := DataW.trod_string Tryd.underlying9 h0
    obtain ⟨k, e1, _, _⟩ := DataW.trod_int Tryd.underlying3 h1
    obtain ⟨c, e2, _, _⟩ := DataW.trod_int Tryd.underlying3 h2
    obtain ⟨t, e3, _, ht⟩ := DataW.trod_string Tryd.underlying9 h3
    obtain ⟨z0, n2, _, _, h6⟩ := trod_struct1 Tryd.underlying55 h4
    simp only [cells22] at h6
    simp at e0 e1 e2 e3 h6 h5
    obtain ⟨a, m, cap, f, rfl, hm, hS, hz⟩ := open_insRow h6
    obtain ⟨a1, m1, cap1, f1, rfl, hm1, hS1, hz1⟩ := open_links h5
    exact ⟨⟨s, k, c, t, m, f, m1, f1⟩, a, cap, a1, cap1, by rw [e0, e1, e2, e3], hS, hS1, hs, ht, ⟨hm, hz⟩, hm1, hz1⟩

set_option maxRecDepth 100000 in
theorem open_deeds {H : Type} {enc : TypeId × Value → H} {W : World} {held : Bool} {fuel : Nat} {c : Value} {x : DataW H × List MemPlace} (h : DataW.trod enc Tryd.prog W 0 (fun _ => true) held fuel 22 [c] = some x) :
    ∃ a n cap, ∃ f : Nat → Deed, c = .slice a n cap ∧ (n : Int) ≤ 9223372036854775807 ∧ SlDeed W a n f ∧ ∀ i, i < n → SizedDeed (f i) := by
  rcases open_slice Tryd.underlying22 h with ⟨hc, _⟩ | ⟨a, len, cap, m, k, D, Pl, hc, hb, hl, hm, hmm, _, hel⟩
  · simp at hc
    subst hc
    exact ⟨none, 0, 0, fun _ => ⟨⟨#[]⟩, 0, 0, ⟨#[]⟩, 0, fun _ => ⟨0, ⟨#[]⟩, 0⟩, 0, fun _ => ⟨⟨#[]⟩, false, false, 0⟩⟩, rfl, by omega, .inl rfl, fun i hi => absurd hi (Nat.not_lt_zero _)⟩
  · simp at hc
    subst hc
    have hmm' : m = cap := by simpa using hmm
    subst hmm'
    have hlen : (len : Int) ≤ 9223372036854775807 := by unfold maxLen at hm; omega
    have each : ∀ i, i < len → ∃ x : Deed, (W.cell? (a.add (i * 6)) = some (.string x.name) ∧ W.cell? (a.add (i * 6 + 1)) = some (.int .i64 x.kind) ∧ W.cell? (a.add (i * 6 + 2)) = some (.int .i64 x.code) ∧ W.cell? (a.add (i * 6 + 3)) = some (.string x.text) ∧ (∃ (a2 : Option Addr) (cap2 : Nat), W.cell? (a.add (i * 6 + 4)) = some (.slice a2 x.actN cap2) ∧ SlIns W a2 x.actN x.act) ∧ ∃ (a3 : Option Addr) (cap3 : Nat), W.cell? (a.add (i * 6 + 5)) = some (.slice a3 x.linksN cap3) ∧ SlLink W a3 x.linksN x.links) ∧ SizedDeed x := by
      intro i hi
      obtain ⟨cs', h1, h2⟩ := hel i (by omega)
      rw [cellsDeed] at h1
      obtain ⟨v0, v1, v2, v3, v4, v5, rfl, g0, g1, g2, g3, g4, g5⟩ := cells?_six h1
      obtain ⟨x, a2, cap2, a3, cap3, ex, hS, hS1, hs⟩ := open_deed h2
      simp only [List.cons.injEq, and_true] at ex
      obtain ⟨rfl, rfl, rfl, rfl, rfl, rfl⟩ := ex
      rw [add_add] at g0 g1 g2 g3 g4 g5
      exact ⟨x, ⟨g0, g1, g2, g3, ⟨a2, cap2, g4, hS⟩, a3, cap3, g5, hS1⟩, hs⟩
    by_cases hz : len = 0
    · subst hz
      exact ⟨_, 0, m, fun _ => ⟨⟨#[]⟩, 0, 0, ⟨#[]⟩, 0, fun _ => ⟨0, ⟨#[]⟩, 0⟩, 0, fun _ => ⟨⟨#[]⟩, false, false, 0⟩⟩, rfl, by omega, .inl rfl, fun i hi => absurd hi (Nat.not_lt_zero _)⟩
    · have : Inhabited Deed := ⟨⟨⟨#[]⟩, 0, 0, ⟨#[]⟩, 0, fun _ => ⟨0, ⟨#[]⟩, 0⟩, 0, fun _ => ⟨⟨#[]⟩, false, false, 0⟩⟩⟩
      obtain ⟨f, hf⟩ := choose_lt each
      obtain ⟨b, off, spot⟩ := a
      have hspot : spot = none := by simpa [Addr.add] using World.cell?_spot (hf 0 (by omega)).1.1
      subst hspot
      have hrow : ∀ i, i < len → AtDeed W b off i (f i) := fun i hi => by
        obtain ⟨hp, _⟩ := hf i hi
        simp only [add_plain] at hp
        exact hp
      refine ⟨_, len, m, f, rfl, hlen, .inr ⟨b, off, rfl, ?_, hrow⟩, fun i hi => (hf i hi).2⟩
      have hc0 := (hrow 0 (by omega)).1
      rcases Nat.lt_or_ge b W.heap.size with h' | h'
      · exact h'
      · simp [World.cell?, Array.getElem?_eq_none h'] at hc0


set_option maxRecDepth 100000 in
theorem open_account {H : Type} {enc : TypeId × Value → H} {W : World} {base : Nat} {v : Value} {d : DataW H} {p : List MemPlace} (hv : Value.okWide Tryd.prog W .any base 24 v)
    (h : DataW.Trod enc Tryd.prog W 0 (fun _ => true) true 24 v d p) :
    ∃ a n cap, ∃ f : Nat → Deed, v = .agg #[.slice a n cap] ∧ (n : Int) ≤ 9223372036854775807 ∧ SlDeed W a n f ∧ ∀ i, i < n → SizedDeed (f i) := by
  obtain ⟨cs, rfl, hsz⟩ := okWide_struct Tryd.underlying24 hv
  rw [cellsAccount] at hsz
  obtain ⟨l⟩ := cs
  match l, hsz with
  | [c0], _ =>
    obtain ⟨fuel, hf⟩ := h
    obtain ⟨y0, n, _, _, h0⟩ := trod_struct1 Tryd.underlying24 hf
    simp only [Value.cells, cellsDeeds] at h0
    simp at h0
    obtain ⟨a0, n0, k0, f0, rfl, e0, s0, z0⟩ := open_deeds h0
    exact ⟨a0, n0, k0, f0, rfl, e0, s0, z0⟩

end Go.Proofs.YtolpgafkojlkoabDoor.Vp
