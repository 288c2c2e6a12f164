/-
  Put together of: InsRow.
-/
import Derived.Test.YtkbhcajiebeepaaGreatDoorZH
import Derived.Test.YtkbhcajiebeepaaGreatDoorZJ
import Derived.Test.YtkbhcajiebeepaaGreatDoorZD
import Derived.Lib.SliceRun

/-
  Rows of instructions as cells.
-/
namespace Go.Proofs.YtkbhcajiebeepaaGreatDoor.Vp
open Go.RowKit

theorem addr_add (b off j : Nat) : (⟨b, off, none⟩ : Addr).add j = ⟨b, off + j, none⟩ := by
  unfold Addr.add
  split <;> simp_all
theorem flat_at {α : Type} (g : α → List Value) (C : Nat) (hC : ∀ x, (g x).length = C) : ∀ (L : List α) (i j : Nat) (_ : j < C) (x : α), L[i]? = some x → (L.flatMap g)[i * C + j]? = (g x)[j]?
  | [], i, j, _, x, h => by simp at h
  | y :: L, 0, j, hj, x, h => by
    simp at h
    subst h
    rw [List.flatMap_cons, Nat.zero_mul, Nat.zero_add, List.getElem?_append_left (by rw [hC]; exact hj)]
  | y :: L, i + 1, j, hj, x, h => by
    simp at h
    rw [List.flatMap_cons, List.getElem?_append_right (by rw [hC, Nat.succ_mul]; omega), hC, show (i + 1) * C + j - C = i * C + j by rw [Nat.succ_mul]; omega]
    exact flat_at g C hC L i j hj x h
theorem flat_len {α : Type} (g : α → List Value) (C : Nat) (hC : ∀ x, (g x).length = C) : ∀ L : List α, (L.flatMap g).length = L.length * C
  | [] => by simp
  | y :: L => by rw [List.flatMap_cons, List.length_append, hC, flat_len g C hC L, List.length_cons, Nat.succ_mul]; omega

def insV (x : Ins) : List Value := [.int .i64 x.op, .string x.s, .int .i64 x.n]
/-- The cells of n instructions. -/
def insL (f : Nat → Ins) (n : Nat) : List Value := ((List.range n).map f).flatMap insV
theorem insL_len (f : Nat → Ins) (n : Nat) : (insL f n).length = n * 3 := by
  rw [insL, flat_len insV 3 (fun _ => rfl)]
  simp
theorem insL_at (f : Nat → Ins) {n i : Nat} (hi : i < n) (j : Nat) (hj : j < 3) : (insL f n)[i * 3 + j]? = (insV (f i))[j]? :=
  flat_at insV 3 (fun _ => rfl) _ i j hj (f i) (by simp [hi])
theorem insL_one (f : Nat → Ins) (n : Nat) : ∀ u ∈ insL f n, u.oneCell' = true := by
  intro u hu
  simp only [insL, List.mem_flatMap, insV] at hu
  obtain ⟨x, _, hx⟩ := hu
  simp at hx
  rcases hx with rfl | rfl | rfl <;> simp [Value.oneCell']
theorem row_ins {w : World} {b off n : Nat} {f : Nat → Ins} (h : RowIns w b off n f) : ∀ j u, (insL f n)[j]? = some u → w.cell? ((⟨b, off, none⟩ : Addr).add j) = some u := by
  intro j u hu
  have hl : j < n * 3 := by
    have := (List.getElem?_eq_some_iff.1 hu).1
    rwa [insL_len] at this
  have e : j = j / 3 * 3 + j % 3 := by omega
  have hi : j / 3 < n := by omega
  obtain ⟨h0, h1, h2⟩ := h.2 (j / 3) hi
  have hm : j % 3 < 3 := Nat.mod_lt _ (by omega)
  rw [e, insL_at f hi (j % 3) hm] at hu
  have ha : (⟨b, off, none⟩ : Addr).add j = ⟨b, off + j, none⟩ := addr_add _ _ _
  rw [ha]
  rcases (show j % 3 = 0 ∨ j % 3 = 1 ∨ j % 3 = 2 by omega) with q | q | q
  all_goals rw [q] at hu; simp [insV] at hu; subst hu
  · rw [show off + j = off + j / 3 * 3 by omega]; exact h0
  · rw [show off + j = off + j / 3 * 3 + 1 by omega]; exact h1
  · rw [show off + j = off + j / 3 * 3 + 2 by omega]; exact h2
/-- A cell of an owned row. -/
theorem own_cell {w : World} {base size n g cap : Nat} {e : TypeId} {xs : List Value} (h : w.ownsRow base e size (.slice (some ⟨g, 0, none⟩) n cap) n xs) {j : Nat} {u : Value} (hu : xs[j]? = some u) : w.cell? ⟨g, j, none⟩ = some u ∧ w.frozen? ⟨g, j, none⟩ = false := by
  refine ⟨?_, ?_⟩
  · have := h.cells (g := g) rfl j u hu
    have ha : (⟨g, 0, none⟩ : Addr).add j = ⟨g, j, none⟩ := by rw [addr_add]; simp
    rwa [ha] at this
  · rcases h.2 with ⟨hv, _⟩ | ⟨g', cap', cur, hv, _, hg, _⟩
    · simp at hv
    · simp at hv
      obtain ⟨rfl, rfl⟩ := hv
      simp [World.frozen?, hg]
theorem own_lt {w : World} {base size n g cap : Nat} {e : TypeId} {xs : List Value} (h : w.ownsRow base e size (.slice (some ⟨g, 0, none⟩) n cap) n xs) : base ≤ g ∧ g < w.heap.size := h.lt g rfl
/-- Its block is of its type. -/
def TypeAt (w : World) (g : Nat) (e : TypeId) : Prop := ∃ cur, w.heap[g]? = some (.cells cur e (0, 0))
theorem own_type {w : World} {base size n g cap : Nat} {e : TypeId} {xs : List Value} (h : w.ownsRow base e size (.slice (some ⟨g, 0, none⟩) n cap) n xs) : TypeAt w g e := by
  rcases h.2 with ⟨hv, _⟩ | ⟨g', cap', cur, hv, _, hg, _⟩
  · simp at hv
  · simp at hv
    obtain ⟨rfl, rfl⟩ := hv
    exact ⟨cur, hg⟩
theorem type_ne {w : World} {g k : Nat} {e e' : TypeId} (h : TypeAt w g e) (h' : TypeAt w k e') (hne : e ≠ e') : g ≠ k := by
  rintro rfl
  obtain ⟨c, hc⟩ := h
  obtain ⟨d, hd⟩ := h'
  rw [hc] at hd
  simp at hd
  exact hne hd.2
theorem own_set {w : World} {base size n R j : Nat} {e : TypeId} {v : Value} {xs : List Value} (h : w.ownsRow base e size v n xs) (hR : R < base) (u : Value) : (w.setCell ⟨R, j, none⟩ u).ownsRow base e size v n xs := by
  refine h.kept (row := some R) ⟨rfl, rfl, rfl, by simp [World.setCell], fun k _ hne => Below.heap_setCell _ _ _ _ (by simpa using hne)⟩ ?_
  rcases h.2 with ⟨rfl, _⟩ | ⟨g, cap, cur, rfl, hg, _⟩
  · exact .inl rfl
  · right
    simp [Value.ownBlock]
    omega
theorem own_ins {w : World} {base n g cap : Nat} {f : Nat → Ins} (h : w.ownsRow base 54 3 (.slice (some ⟨g, 0, none⟩) n cap) n (insL f n)) : RowIns w g 0 n f ∧ ∃ F, Cells w g 0 (n * 3) F := by
  have hlt := (own_lt h).2
  refine ⟨⟨hlt, fun i hi => ⟨?_, ?_, ?_⟩⟩, fun j => (insL f n)[j]?.getD undef, hlt, fun j hj => ?_⟩
  · have := (own_cell h (j := i * 3) (u := .int .i64 (f i).op) (by have := insL_at f hi 0 (by omega); simpa [insV] using this)).1
    rwa [show 0 + i * 3 = i * 3 by omega]
  · have := (own_cell h (j := i * 3 + 1) (u := .string (f i).s) (by have := insL_at f hi 1 (by omega); simpa [insV] using this)).1
    rwa [show 0 + i * 3 + 1 = i * 3 + 1 by omega]
  · have := (own_cell h (j := i * 3 + 2) (u := .int .i64 (f i).n) (by have := insL_at f hi 2 (by omega); simpa [insV] using this)).1
    rwa [show 0 + i * 3 + 2 = i * 3 + 2 by omega]
  · rw [Nat.zero_add]
    have hl : j < (insL f n).length := by rw [insL_len]; exact hj
    have := own_cell h (j := j) (u := (insL f n)[j]) (by rw [List.getElem?_eq_getElem hl])
    show w.cell? _ = some ((insL f n)[j]?.getD undef) ∧ _
    rw [List.getElem?_eq_getElem hl]
    exact this

end Go.Proofs.YtkbhcajiebeepaaGreatDoor.Vp
