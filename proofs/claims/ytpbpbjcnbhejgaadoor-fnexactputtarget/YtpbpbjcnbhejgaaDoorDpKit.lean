/-
  What the law of an edit carries along.
-/
import Derived.Test.YtpbpbjcnbhejgaaDoorDpBase
import Derived.Test.YtpbpbjcnbhejgaaDoorMSpace
namespace Go.Proofs.YtpbpbjcnbhejgaaDoor.Vp
open Go.RowKit

/-- Two cells of a box. -/
structure Two (w : World) (b : Nat) (v0 v1 : Value) : Prop where
  lt : b < w.heap.size
  c0 : w.cell? ⟨b, 0, none⟩ = some v0
  c1 : w.cell? ⟨b, 1, none⟩ = some v1
theorem Two.block {w w' : World} {b : Nat} {v0 v1 : Value} (h : Two w b v0 v1) (hz : w.heap.size ≤ w'.heap.size) (hb : w'.heap[b]? = w.heap[b]?) : Two w' b v0 v1 :=
  ⟨Nat.lt_of_lt_of_le h.lt hz, (World.cell?_of_block (a := ⟨b, 0, none⟩) hb).trans h.c0, (World.cell?_of_block (a := ⟨b, 1, none⟩) hb).trans h.c1⟩
theorem Two.below {w w' : World} {b : Nat} {v0 v1 : Value} (h : Two w b v0 v1) (hb : Below w.heap.size w w') : Two w' b v0 v1 := h.block hb.size (hb.block b h.lt)
theorem Two.touch {w w' : World} {b : Nat} {v0 v1 : Value} {P : Nat → Prop} (h : Two w b v0 v1) (ht : Touch P w w') (hb : ¬ P b) : Two w' b v0 v1 := h.block ht.size (ht.block b h.lt hb)
theorem two_box (w : World) (v0 v1 : Value) (t : TypeId) : Two (w.alloc (.cells #[v0, v1] t)) w.heap.size v0 v1 := ⟨by simp, by simp, by simp⟩
theorem Touch.toBelow {P : Nat → Prop} {B : Nat} {w w' : World} (h : Touch P w w') (hP : ∀ k, P k → B ≤ k) (hB : B ≤ w.heap.size) : Below B w w' :=
  ⟨h.os, h.tape, h.output, h.size, fun k hk => h.block k (by omega) (fun hp => by have := hP k hp; omega)⟩
instance : Inhabited Source := ⟨⟨⟨#[]⟩, ⟨#[]⟩⟩⟩
instance : Inhabited Target := ⟨⟨⟨#[]⟩, 0, fun _ => ⟨0, ⟨#[]⟩, 0⟩⟩⟩
def srcF (L : List Source) (i : Nat) : Source := L.getD i default
def tgtF (L : List Target) (i : Nat) : Target := L.getD i default
theorem own_src {w : World} {base c : Nat} {a : Option Addr} {L : List Source} (h : w.ownsRow base 76 2 (.slice a L.length c) L.length (L.flatMap srcV)) : SlSource w a L.length (srcF L) := by
  by_cases hn : L.length = 0
  · exact .inl hn
  · obtain ⟨g, c', e⟩ := own_some h (by omega)
    simp at e
    obtain ⟨rfl, rfl⟩ := e
    refine .inr ⟨g, 0, rfl, (own_lt h).2, fun i hi => ?_⟩
    have hx : L[i]? = some (srcF L i) := by rw [srcF, List.getD_eq_getElem?_getD, List.getElem?_eq_getElem hi]; rfl
    refine ⟨?_, ?_⟩
    · have := (own_cell h (j := i * 2) (u := .string (srcF L i).name) (by have := flat_at srcV 2 (fun _ => rfl) L i 0 (by omega) _ hx; simpa [srcV] using this)).1
      rwa [show 0 + i * 2 = i * 2 by omega]
    · have := (own_cell h (j := i * 2 + 1) (u := .string (srcF L i).text) (by have := flat_at srcV 2 (fun _ => rfl) L i 1 (by omega) _ hx; simpa [srcV] using this)).1
      rwa [show 0 + i * 2 + 1 = i * 2 + 1 by omega]
theorem trow_at {R : List TR} {i : Nat} (hi : i < R.length) : ∃ r, R[i]? = some r ∧ r ∈ R := ⟨R[i], List.getElem?_eq_getElem hi, List.getElem_mem hi⟩
theorem trow_tgt {w : World} {base c : Nat} {a : Option Addr} {R : List TR} (h : TRow w base (.slice a R.length c) R) : SlTarget w a R.length (tgtF (R.map (·.1))) := by
  by_cases hn : R.length = 0
  · exact .inl hn
  · obtain ⟨g, c', e⟩ := own_some h.own (by omega)
    simp at e
    obtain ⟨rfl, rfl⟩ := e
    refine .inr ⟨g, 0, rfl, (own_lt h.own).2, fun i hi => ?_⟩
    obtain ⟨r, hr, hm⟩ := trow_at hi
    have hx : tgtF (R.map (·.1)) i = r.1 := by rw [tgtF, List.getD_eq_getElem?_getD, List.getElem?_map, hr]; rfl
    rw [hx]
    obtain ⟨h1, _, _, _⟩ := h.act r hm
    refine ⟨?_, some ⟨r.2.1, 0, none⟩, r.2.2, ?_, h1.sl⟩
    · have := (own_cell h.own (j := i * 2) (u := .string r.1.name) (by have := flat_at tgtV 2 (fun _ => rfl) R i 0 (by omega) _ hr; simpa [tgtV] using this)).1
      rwa [show 0 + i * 2 = i * 2 by omega]
    · have := (own_cell h.own (j := i * 2 + 1) (u := .slice (some ⟨r.2.1, 0, none⟩) r.1.actN r.2.2) (by have := flat_at tgtV 2 (fun _ => rfl) R i 1 (by omega) _ hr; simpa [tgtV] using this)).1
      rwa [show 0 + i * 2 + 1 = i * 2 + 1 by omega]
theorem own_cells {w : World} {base size n g cap : Nat} {e : TypeId} {xs : List Value} (h : w.ownsRow base e size (.slice (some ⟨g, 0, none⟩) n cap) n xs) : ∃ F, Cells w g 0 (n * size) F ∧ ∀ j, j < n * size → xs[j]? = some (F j) := by
  refine ⟨fun j => xs[j]?.getD undef, ⟨(own_lt h).2, fun j hj => ?_⟩, fun j hj => ?_⟩
  · have hl : j < xs.length := by rw [h.1]; exact hj
    have := own_cell h (j := j) (u := xs[j]) (by rw [List.getElem?_eq_getElem hl])
    show w.cell? ⟨g, 0 + j, none⟩ = some (xs[j]?.getD undef) ∧ _
    rw [Nat.zero_add, List.getElem?_eq_getElem hl]
    exact this
  · have hl : j < xs.length := by rw [h.1]; exact hj
    show xs[j]? = some (xs[j]?.getD undef)
    rw [List.getElem?_eq_getElem hl]
    rfl
/-- What an edit answers may be written, all apart. -/
theorem scells_own {w : World} {base c0 c1 : Nat} {a0 a1 : Option Addr} {L : List Source} {R : List TR} (hO : w.ownsRow base 76 2 (.slice a0 L.length c0) L.length (L.flatMap srcV)) (hR : TRow w base (.slice a1 R.length c1) R) (hf : ∀ r ∈ R, r.1.actN ≤ 1048576) : SCells w a0 L.length a1 R.length (fun k => base ≤ k ∧ k < w.heap.size) := by
  refine ⟨?_, ?_⟩
  · by_cases hn : L.length = 0
    · exact .inl hn
    · obtain ⟨g, c', e⟩ := own_some hO (by omega)
      simp at e
      obtain ⟨rfl, rfl⟩ := e
      obtain ⟨F, hF, _⟩ := own_cells hO
      exact .inr ⟨g, rfl, own_lt hO, F, hF⟩
  · by_cases hn : R.length = 0
    · exact .inl hn
    · obtain ⟨g, c', e⟩ := own_some hR.own (by omega)
      simp at e
      obtain ⟨rfl, rfl⟩ := e
      obtain ⟨F, hF, hx⟩ := own_cells hR.own
      have hB : ∀ i, i < R.length → ∃ r, R[i]? = some r ∧ r ∈ R := fun i hi => trow_at hi
      have hget : ∀ i r, R[i]? = some r → (R.getD i default) = r := fun i r h => by rw [List.getD_eq_getElem?_getD, h]; rfl
      refine .inr ⟨g, fun i => (R.getD i default).2.1, fun i => (R.getD i default).1.actN, rfl, ⟨⟨F, hF, fun i hi => ?_⟩, fun i hi => ?_, fun i hi => ?_, fun i j hi hj hij => ?_⟩, own_lt hR.own, fun i hi => ?_, fun i hi => ?_, fun S hS hn0 => ⟨?_, fun i hi => ?_⟩⟩
      · obtain ⟨r, hr, hm⟩ := hB i hi
        have h1 := flat_at tgtV 2 (fun _ => rfl) R i 1 (by omega) _ hr
        have h2 := hx (i * 2 + 1) (by omega)
        rw [h2] at h1
        simp [tgtV] at h1
        exact ⟨r.2.2, by rw [h1, hget i r hr]⟩
      · obtain ⟨r, hr, hm⟩ := hB i hi
        obtain ⟨_, ⟨G, hG⟩, _, _⟩ := hR.act r hm
        try dsimp only
        rw [hget i r hr]
        exact ⟨G, hG⟩
      · obtain ⟨r, hr, hm⟩ := hB i hi
        obtain ⟨_, _, h3, _⟩ := hR.act r hm
        try dsimp only
        rw [hget i r hr]
        exact type_ne h3 (own_type hR.own) (by decide)
      · obtain ⟨r, hr, _⟩ := hB i hi
        obtain ⟨q, hq, _⟩ := hB j hj
        try dsimp only
        rw [hget i r hr, hget j q hq]
        have hp := List.pairwise_iff_getElem.1 hR.up
        have er : R[i] = r := by rw [List.getElem?_eq_getElem hi] at hr; simpa using hr
        have eq : R[j] = q := by rw [List.getElem?_eq_getElem hj] at hq; simpa using hq
        rcases Nat.lt_or_gt_of_ne hij with h | h
        · have := hp i j hi hj h
          rw [er, eq] at this
          omega
        · have := hp j i hj hi h
          rw [er, eq] at this
          omega
      · obtain ⟨r, hr, hm⟩ := hB i hi
        obtain ⟨h1, _, _, h4⟩ := hR.act r hm
        try dsimp only
        rw [hget i r hr]
        exact ⟨h4, h1.1⟩
      · obtain ⟨r, hr, hm⟩ := hB i hi
        try dsimp only
        rw [hget i r hr]
        exact hf r hm
      · subst hS
        exact type_ne (own_type hR.own) (own_type hO) (by decide)
      · subst hS
        obtain ⟨r, hr, hm⟩ := hB i hi
        obtain ⟨_, _, h3, _⟩ := hR.act r hm
        try dsimp only
        rw [hget i r hr]
        exact type_ne h3 (own_type hO) (by decide)
theorem own_touch {w w' : World} {base size n : Nat} {e : TypeId} {v : Value} {xs : List Value} {P : Nat → Prop} (h : w.ownsRow base e size v n xs) (ht : Touch P w w') (hP : ∀ k, P k → k < base) : w'.ownsRow base e size v n xs := by
  refine ⟨h.1, ?_⟩
  rcases h.2 with h | ⟨g, cap, cur, hv, hg, hc, r⟩
  · exact .inl h
  · refine .inr ⟨g, cap, cur, hv, hg, (ht.block g ?_ (fun hp => by have := hP g hp; omega)).trans hc, r⟩
    exact (Array.getElem?_eq_some_iff.1 hc).1
theorem TRow.touch {w w' : World} {base : Nat} {v : Value} {R : List TR} {P : Nat → Prop} (h : TRow w base v R) (ht : Touch P w w') (hP : ∀ k, P k → k < base) : TRow w' base v R := by
  refine ⟨own_touch h.own ht hP, fun r hr => ?_, h.up⟩
  obtain ⟨h1, ⟨F, h2⟩, h3, h4⟩ := h.act r hr
  have e := ht.block r.2.1 h1.1 (fun hp => by have := hP _ hp; omega)
  exact ⟨h1.block ht.size e, ⟨F, h2.block ht.size e⟩, h3.block e, h4⟩
/-- A copy of the argument may be written, all apart. -/
theorem scells_copy {w : World} {g0 g1 n0 n1 N lo : Nat} {f0 : Nat → Source} {f1 : Nat → Target} (h0 : OwnSource w g0 n0 n0 f0) (h1 : OwnTarget2 w g1 n1 n1 N f1) (hlo : lo ≤ g0) (hlt : g0 < g1) (hf : ∀ i, i < n1 → FitsTarget (f1 i)) : SCells w (some ⟨g0, 0, none⟩) n0 (some ⟨g1, 0, none⟩) n1 (fun k => lo ≤ k ∧ k < w.heap.size) := by
  have hl1 := h1.lt
  obtain ⟨F0, hF0⟩ := h0.cells
  refine ⟨.inr ⟨g0, rfl, ⟨hlo, h0.lt⟩, F0, hF0⟩, ?_⟩
  obtain ⟨F, G, hr, hup, hlt2, hF⟩ := h1
  refine .inr ⟨g1, G, fun i => (f1 i).actN, rfl, ⟨⟨F, cells_of_row hr, fun i hi => ⟨_, (hF i hi).2.1⟩⟩, fun i hi => (hF i hi).2.2.1.cells, fun i hi => ?_, fun i j hi hj hij => ?_⟩, ⟨by omega, hl1⟩, fun i hi => ?_, fun i hi => hf i hi, fun S hS _ => ?_⟩
  · have := (hF i hi).2.2.2
    omega
  · rcases Nat.lt_or_gt_of_ne hij with h | h
    · have := hup i j h hj
      omega
    · have := hup j i h hi
      omega
  · have h1 := (hF i hi).2.2.2
    have h2 := (hF i hi).2.2.1.lt
    exact ⟨by omega, h2⟩
  · simp at hS
    subst hS
    refine ⟨by omega, fun i hi => ?_⟩
    have := (hF i hi).2.2.2
    omega

theorem SCells.below {w w' : World} {a0 a1 : Option Addr} {n0 n1 : Nat} {P : Nat → Prop} (h : SCells w a0 n0 a1 n1 P) (hb : Below w.heap.size w w') : SCells w' a0 n0 a1 n1 P := by
  obtain ⟨h0, h1⟩ := h
  refine ⟨?_, ?_⟩
  · rcases h0 with h | ⟨S, e, hp, F, hF⟩
    · exact .inl h
    · exact .inr ⟨S, e, hp, F, hF.below hb hF.1⟩
  · rcases h1 with h | ⟨T, B, m, e, hT, r⟩
    · exact .inl h
    · exact .inr ⟨T, B, m, e, hT.below hb (Nat.le_refl _), r⟩
/-- An answer: what it owns, in blocks from base to N - 1. -/
structure Held (w : World) (base N : Nat) (v0 v1 : Value) (L : List Source) (R : List TR) : Prop where
  own : w.ownsRow base 76 2 v0 L.length (L.flatMap srcV)
  row : TRow w base v1 R
  u0 : ∀ k, v0.ownBlock = some k → k < N
  u1 : ∀ k, v1.ownBlock = some k → k < N
  u2 : ∀ r ∈ R, r.2.1 < N
theorem held_new {w : World} {base : Nat} {v0 v1 : Value} {L : List Source} {R : List TR} (hO : w.ownsRow base 76 2 v0 L.length (L.flatMap srcV)) (hR : TRow w base v1 R) : Held w base w.heap.size v0 v1 L R :=
  ⟨hO, hR, fun k hk => (hO.lt k hk).2, fun k hk => (hR.own.lt k hk).2, fun r hr => (hR.act r hr).1.1⟩
theorem Held.below {w w' : World} {base N : Nat} {v0 v1 : Value} {L : List Source} {R : List TR} (h : Held w base N v0 v1 L R) (hb : Below w.heap.size w w') : Held w' base N v0 v1 L R :=
  ⟨own_below h.own hb (Nat.le_refl _), h.row.below hb (Nat.le_refl _), h.u0, h.u1, h.u2⟩
theorem own_far {w w' : World} {base size n : Nat} {e : TypeId} {v : Value} {xs : List Value} {P : Nat → Prop} (h : w.ownsRow base e size v n xs) (ht : Touch P w w') (hP : ∀ k, v.ownBlock = some k → ¬ P k) : w'.ownsRow base e size v n xs := by
  refine ⟨h.1, ?_⟩
  rcases h.2 with h | ⟨g, cap, cur, hv, hg, hc, r⟩
  · exact .inl h
  · refine .inr ⟨g, cap, cur, hv, hg, (ht.block g ?_ (hP g (by rw [hv]; rfl))).trans hc, r⟩
    exact (Array.getElem?_eq_some_iff.1 hc).1
theorem Held.touch {w w' : World} {base N : Nat} {v0 v1 : Value} {L : List Source} {R : List TR} {P : Nat → Prop} (h : Held w base N v0 v1 L R) (ht : Touch P w w') (hP : ∀ k, P k → k < base ∨ N ≤ k) : Held w' base N v0 v1 L R := by
  refine ⟨own_far h.own ht fun k hk hp => ?_, ⟨own_far h.row.own ht fun k hk hp => ?_, fun r hr => ?_, h.row.up⟩, h.u0, h.u1, h.u2⟩
  · have h1 := (h.own.lt k hk).1
    have h2 := h.u0 k hk
    have := hP k hp
    omega
  · have h1 := (h.row.own.lt k hk).1
    have h2 := h.u1 k hk
    have := hP k hp
    omega
  · obtain ⟨h1, ⟨F, h2⟩, h3, h4⟩ := h.row.act r hr
    have e := ht.block r.2.1 h1.1 (fun hp => by have := hP _ hp; have := h.u2 r hr; omega)
    exact ⟨h1.block ht.size e, ⟨F, h2.block ht.size e⟩, h3.block e, h4⟩
theorem Held.src {w : World} {base N n c : Nat} {a : Option Addr} {v1 : Value} {L : List Source} {R : List TR} (h : Held w base N (.slice a n c) v1 L R) (hn : n = L.length) : SlSource w a n (srcF L) := by
  subst hn
  exact own_src h.own
theorem Held.tgt {w : World} {base N n c : Nat} {a : Option Addr} {v0 : Value} {L : List Source} {LT : List Target} {R : List TR} (h : Held w base N v0 (.slice a n c) L R) (hn : n = LT.length) (hM : R.map (·.1) = LT) : SlTarget w a n (tgtF LT) := by
  subst hM
  have e : n = R.length := by rw [hn]; simp
  subst e
  exact trow_tgt h.row
theorem Held.cells {w : World} {base N n0 c0 n1 c1 : Nat} {a0 a1 : Option Addr} {L : List Source} {R : List TR} (h : Held w base N (.slice a0 n0 c0) (.slice a1 n1 c1) L R) (h0 : n0 = L.length) (h1 : n1 = R.length) (hf : ∀ r ∈ R, r.1.actN ≤ 1048576) : SCells w a0 n0 a1 n1 (fun k => base ≤ k ∧ k < N) := by
  subst h0 h1
  obtain ⟨s, t⟩ := scells_own h.own h.row hf
  refine ⟨?_, ?_⟩
  · rcases s with s | ⟨S, rfl, hp, r⟩
    · exact .inl s
    · exact .inr ⟨S, rfl, ⟨hp.1, h.u0 S rfl⟩, r⟩
  · rcases t with t | ⟨T, B, m, rfl, hT, hp, hB, hm, r⟩
    · exact .inl t
    · refine .inr ⟨T, B, m, rfl, hT, ⟨hp.1, h.u1 T rfl⟩, fun i hi => ⟨(hB i hi).1, ?_⟩, hm, r⟩
      obtain ⟨F, hF, hs⟩ := hT.row
      obtain ⟨cap, hcap⟩ := hs i hi
      obtain ⟨r', hr', hmem⟩ := trow_at (R := R) (i := i) hi
      have h2 := flat_at tgtV 2 (fun _ => rfl) R i 1 (by omega) _ hr'
      have h3 := (own_cell h.row.own (j := i * 2 + 1) (u := .slice (some ⟨r'.2.1, 0, none⟩) r'.1.actN r'.2.2) (by simpa [tgtV] using h2)).1
      have h4 := (hF.at (i * 2 + 1) (i * 2 + 1) (by omega) (by omega)).1
      rw [h3, hcap] at h4
      simp at h4
      rw [← h4.1]
      exact h.u2 r' hmem

end Go.Proofs.YtpbpbjcnbhejgaaDoor.Vp
