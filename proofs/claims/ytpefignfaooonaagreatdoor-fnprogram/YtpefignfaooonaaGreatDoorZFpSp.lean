/-
  FnProgram: places of a row that are changed; the draw of none.
-/
import Derived.Test.YtpefignfaooonaaGreatDoorZFpSt
namespace Go.Proofs.YtpefignfaooonaaGreatDoor.Vp
open Go.RowKit

theorem i3L_set3 : ∀ (L : List I3) (i : Nat) (y : I3) (j : Nat) (v : Value), j < 3 → i < L.length → i3V y = (i3V (L.getD i (0, [], 0))).set j v → i3L (L.set i y) = (i3L L).set (i * 3 + j) v
  | [], i, y, j, v, _, h, _ => by simp at h
  | x :: L, 0, y, j, v, hj, _, e => by
    show i3V y ++ i3L L = (i3V x ++ i3L L).set (0 * 3 + j) v
    rw [List.set_append_left _ _ (by show 0 * 3 + j < 3; omega), Nat.zero_mul, Nat.zero_add]
    rw [show i3V y = (i3V x).set j v from e]
  | x :: L, i + 1, y, j, v, hj, h, e => by
    have ih := i3L_set3 L i y j v hj (by simpa using h) e
    have hl : (i3V x).length = 3 := rfl
    show i3V x ++ i3L (L.set i y) = (i3V x ++ i3L L).set ((i + 1) * 3 + j) v
    rw [ih, List.set_append_right _ _ (by rw [hl]; omega), hl, show (i + 1) * 3 + j - 3 = i * 3 + j by omega]
theorem IR.set3 {w : World} {base g c : Nat} {L : List I3} (h : IR w base g c L) {i j : Nat} (hi : i < L.length) (hj : j < 3) (y : I3) (v : Value) (e : i3V y = (i3V (L.getD i (0, [], 0))).set j v) : IR (w.setCell ⟨g, i * 3 + j, none⟩ v) base g c (L.set i y) := by
  unfold IR
  rw [List.length_set, i3L_set3 L i y j v hj hi e]
  refine ⟨by rw [List.length_set]; exact h.1, ?_⟩
  rcases h.2 with ⟨hv, h0⟩ | ⟨g', cap, cur, hv, hb, hg, h1, h2, h3, h4⟩
  · simp at hv
  · simp only [Value.slice.injEq, Option.some.injEq, Addr.mk.injEq] at hv
    obtain ⟨⟨rfl, -⟩, -, rfl⟩ := hv
    refine .inr ⟨g, c, cur.setIfInBounds (i * 3 + j) v, rfl, hb, ?_, h1, h2, by simpa using h3, ?_⟩
    · simp [World.setCell, Array.getElem?_modify, hg]
    · rw [Array.toList_setIfInBounds, List.take_set, h4]
/-- A row's first k. -/
theorem IR.take {w : World} {base g c : Nat} {L : List I3} (h : IR w base g c L) (k : Nat) (hk : k ≤ L.length) : IR w base g c (L.take k) := by
  have e : i3L (L.take k) = (i3L L).take (k * 3) := by
    have h1 : i3L L = i3L (L.take k) ++ i3L (L.drop k) := by rw [← i3L_app, List.take_append_drop]
    have h2 : (i3L (L.take k)).length = k * 3 := by rw [i3L_len, List.length_take, Nat.min_eq_left hk]
    rw [h1, ← h2, List.take_left']
    rfl
  have hl : (L.take k).length = k := by rw [List.length_take, Nat.min_eq_left hk]
  unfold IR
  rw [e, hl]
  refine ⟨by rw [List.length_take, h.1, Nat.min_eq_left (by omega)], ?_⟩
  rcases h.2 with ⟨hv, h0⟩ | ⟨g', cap, cur, hv, hb, hg, h1, h2, h3, h4⟩
  · simp at hv
  · simp only [Value.slice.injEq, Option.some.injEq, Addr.mk.injEq] at hv
    obtain ⟨⟨rfl, -⟩, -, rfl⟩ := hv
    refine .inr ⟨g, c, cur, rfl, hb, hg, by omega, h2, h3, ?_⟩
    rw [← h4, List.take_take, Nat.min_eq_left (by omega)]
theorem IR.fz {w : World} {base g c : Nat} {L : List I3} (h : IR w base g c L) (j : Nat) : w.frozen? ⟨g, j, none⟩ = false := by
  rcases h.2 with ⟨hv, _⟩ | ⟨g', cap, cur, hv, _, hg, _⟩
  · simp at hv
  · simp only [Value.slice.injEq, Option.some.injEq, Addr.mk.injEq] at hv
    obtain ⟨⟨rfl, -⟩, -, rfl⟩ := hv
    exact Lib.frozen_of_heap hg _
theorem SC.set3 {w W : World} {R rb q g c n : Nat} {L : List I3} (h : SC w R rb W q g c L n) {i j : Nat} (hi : i < L.length) (hj : j < 3) (y : I3) (v : Value) (e : i3V y = (i3V (L.getD i (0, [], 0))).set j v) (hy : y.2.1.length ≤ 5000) : SC w R rb (W.setCell ⟨g, i * 3 + j, none⟩ v) q g c (L.set i y) n := by
  have B := (Below.refl (rb + 1) W).setCell (p := ⟨g, i * 3 + j, none⟩) h.ir.lt.1 v
  refine ⟨h.1.low B, h.ir.set3 hi hj y v e, by rw [List.length_set]; exact h.len, fun x hx => ?_⟩
  rcases List.mem_or_eq_of_mem_set hx with h1 | h1
  · exact h.2.2.2 x h1
  · rw [h1]; exact hy
theorem SC.take {w W : World} {R rb q g c n : Nat} {L : List I3} (h : SC w R rb W q g c L n) (k : Nat) (hk : k ≤ L.length) : SC w R rb W q g c (L.take k) n :=
  ⟨h.1, h.ir.take k hk, by rw [List.length_take]; have := h.len; omega, fun i hi => h.2.2.2 i (List.mem_of_mem_take hi)⟩
theorem SC.app0 {w W W' : World} {R rb q g c g' c' n n' : Nat} {L M : List I3} (h : SC w R rb W q g c L n) (hI : IR W' (rb + 1) g' c' (L ++ M)) (hG : W.grownBy W' (some g)) (hn : L.length + M.length ≤ n') (hT : ∀ i ∈ M, i.2.1.length ≤ 5000) : SC w R rb W' q g' c' (L ++ M) n' := by
  have hl := h.1.lt
  have BG := Below.grown (Below.refl (rb + 1) W) hG (by omega) (fun k e => by have := h.2.1.lt; simp at e; omega)
  refine ⟨h.1.low BG, hI, by rw [List.length_append]; omega, fun i hi => ?_⟩
  rcases List.mem_append.1 hi with hi | hi
  · exact h.2.2.2 i hi
  · exact hT i hi
theorem SC.mono {w W : World} {R rb q g c n n' : Nat} {L : List I3} (h : SC w R rb W q g c L n) (hn : L.length ≤ n') : SC w R rb W q g c L n' := ⟨h.1, h.2.1, hn, h.2.2.2⟩
theorem SC.text {w W : World} {R rb q g c n : Nat} {L : List I3} (h : SC w R rb W q g c L n) (i : Nat) (hi : i < L.length) : (L.getD i (0, [], 0)).2.1.length ≤ 5000 := by
  have e : L.getD i (0, [], 0) = L[i] := by simp [hi]
  rw [e]
  exact h.2.2.2 _ (List.getElem_mem hi)
/-- The blocks of l1Spoil. -/
theorem spoil_new {w : World} {R q : Nat} (h : Rd w R q) (v : Value) : SC w R (w.heap.size + 1) (((w.alloc (.cells #[v] 24)).alloc (.cells #[.slice none 0 0] 24)).alloc (.cells #[] 41)) q (w.heap.size + 2) 0 [] 0 := by
  have A0 := (Below.refl w.heap.size w).alloc (Nat.le_refl _) (.cells #[v] 24)
  have A1 := A0.alloc A0.size (.cells #[.slice none 0 0] 24)
  have A2 := A1.alloc A1.size (.cells #[] 41)
  have hz : ((w.alloc (.cells #[v] 24)).alloc (.cells #[.slice none 0 0] 24)).heap.size = w.heap.size + 2 := by simp
  have I := IR.lit ((w.alloc (.cells #[v] 24)).alloc (.cells #[.slice none 0 0] 24))
  rw [hz] at I
  refine ⟨⟨h.below A2 (Nat.le_refl _), Only.of_below A2, ?_, h.lt, by omega⟩, I, Nat.le_refl _, fun i hi => by cases hi⟩
  show _ = _
  rw [heap_alloc_old _ _ (by simp)]
  exact heap_alloc2_new w _ _

end Go.Proofs.YtpefignfaooonaaGreatDoor.Vp
