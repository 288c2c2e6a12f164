/-
  FnProgram: a number of an instruction is set.
-/
import Derived.Test.YtpefignfaooonaaGreatDoorZFpApp
namespace Go.Proofs.YtpefignfaooonaaGreatDoor.Vp
open Go.RowKit

theorem i3L_setN : ∀ (L : List I3) (i : Nat) (n : Int) (x : I3), L[i]? = some x → i3L (L.set i (x.1, x.2.1, n)) = (i3L L).set (i * 3 + 2) (.int .i64 n)
  | [], i, n, x, h => by simp at h
  | y :: L, 0, n, x, h => by
    simp at h
    subst h
    rfl
  | y :: L, i + 1, n, x, h => by
    simp at h
    have ih := i3L_setN L i n x h
    have hl : (i3V y).length = 3 := rfl
    rw [List.set_cons_succ]
    show i3V y ++ i3L (L.set i (x.1, x.2.1, n)) = (i3V y ++ i3L L).set ((i + 1) * 3 + 2) (.int .i64 n)
    rw [ih, List.set_append_right _ _ (by rw [hl]; omega), hl, show (i + 1) * 3 + 2 - 3 = i * 3 + 2 by omega]
theorem IR.setN {w : World} {base g c : Nat} {L : List I3} (h : IR w base g c L) {i : Nat} (hi : i < L.length) (n : Int) :
    ∃ L', L'.length = L.length ∧ ((∀ x ∈ L, x.2.1.length ≤ 5000) → ∀ x ∈ L', x.2.1.length ≤ 5000) ∧ IR (w.setCell ⟨g, i * 3 + 2, none⟩ (.int .i64 n)) base g c L' := by
  have hx : L[i]? = some L[i] := List.getElem?_eq_getElem hi
  refine ⟨L.set i (L[i].1, L[i].2.1, n), List.length_set, fun hT x hm => ?_, ?_⟩
  · rcases List.mem_or_eq_of_mem_set hm with h1 | h1
    · exact hT x h1
    · rw [h1]
      exact hT L[i] (List.getElem_mem hi)
  · unfold IR
    rw [List.length_set, i3L_setN L i n L[i] hx]
    refine ⟨by rw [List.length_set]; exact h.1, ?_⟩
    rcases h.2 with ⟨hv, h0⟩ | ⟨g', cap, cur, hv, hb, hg, h1, h2, h3, h4⟩
    · simp at hv
    · simp only [Value.slice.injEq, Option.some.injEq, Addr.mk.injEq] at hv
      obtain ⟨⟨rfl, -⟩, -, rfl⟩ := hv
      refine .inr ⟨g, c, cur.setIfInBounds (i * 3 + 2) (.int .i64 n), rfl, hb, ?_, h1, h2, by simpa using h3, ?_⟩
      · simp [World.setCell, Array.getElem?_modify, hg]
      · rw [Array.toList_setIfInBounds, List.take_set, h4]
theorem IR.cellN {w : World} {base g c : Nat} {L : List I3} (h : IR w base g c L) {i : Nat} (hi : i < L.length) : (∃ v, w.cell? ⟨g, i * 3 + 2, none⟩ = some (.int .i64 v)) ∧ w.frozen? ⟨g, i * 3 + 2, none⟩ = false := by
  have hx : L[i]? = some L[i] := List.getElem?_eq_getElem hi
  have key : ∀ (L : List I3) (i : Nat) (x : I3), L[i]? = some x → (i3L L)[i * 3 + 2]? = some (.int .i64 x.2.2) := by
    intro L
    induction L with
    | nil => intro i x h; simp at h
    | cons y L ih =>
      intro i x h
      cases i with
      | zero => simp at h; subst h; rfl
      | succ i =>
        simp at h
        have hl : (i3V y).length = 3 := rfl
        show (i3V y ++ i3L L)[(i + 1) * 3 + 2]? = _
        rw [List.getElem?_append_right (by rw [hl]; omega), hl, show (i + 1) * 3 + 2 - 3 = i * 3 + 2 by omega]
        exact ih i x h
  have hc := World.ownsRow.cells h (g := g) rfl _ _ (key L i L[i] hx)
  rw [addr_addF, Nat.zero_add] at hc
  refine ⟨⟨_, hc⟩, ?_⟩
  rcases h.2 with ⟨hv, _⟩ | ⟨g', cap, cur, hv, _, hg, _⟩
  · simp at hv
  · simp only [Value.slice.injEq, Option.some.injEq, Addr.mk.injEq] at hv
    obtain ⟨⟨rfl, -⟩, -, rfl⟩ := hv
    exact Lib.frozen_of_heap hg _

end Go.Proofs.YtpefignfaooonaaGreatDoor.Vp
