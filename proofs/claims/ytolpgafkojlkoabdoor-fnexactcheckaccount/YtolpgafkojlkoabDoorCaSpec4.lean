/-
  spec: l3Order; what the order tells.
-/
import Derived.Test.YtolpgafkojlkoabDoorCaSpec3
import Derived.Test.YtolpgafkojlkoabDoorCaSeq
import Derived.Test.YtolpgafkojlkoabDoorCaCheck
namespace Go.Proofs.YtolpgafkojlkoabDoor.Vp
open Go.RowKit

theorem offAt_all {L : List (Nat × Nat)} : ∀ {i : Nat}, (∀ j (h : j < L.length), (L[j]).1 = i + j) → offAt i L = -1 := by
  induction L with
  | nil => intro i _; rfl
  | cons x xs ih =>
    intro i h
    have h0 := h 0 (by simp)
    simp at h0
    rw [offAt, if_pos h0]
    refine ih fun j hj => ?_
    have := h (j + 1) (by simpa using hj)
    simp at this
    omega
theorem offAt_at {L : List (Nat × Nat)} : ∀ {i j : Nat} (hj : j < L.length), (∀ m (h : m < j), (L[m]).1 = i + m) → (L[j]).1 ≠ i + j → offAt i L = ((i + j : Nat) : Int) := by
  induction L with
  | nil => intro i j hj; simp at hj
  | cons x xs ih =>
    intro i j hj h hne
    cases j with
    | zero =>
      simp at hne
      rw [offAt, if_neg hne]
      simp
    | succ j =>
      have h0 := h 0 (by omega)
      simp at h0
      rw [offAt, if_pos h0, ih (i := i + 1) (j := j) (by simpa using hj) (fun m hm => ?_) (by simpa [Nat.add_assoc, Nat.add_comm 1 j] using hne)]
      · congr 1; omega
      · have := h (m + 1) (by omega)
        simp at this
        omega
theorem deepTo_stay {f : Nat → Deed} {d : Int} : ∀ {L : List (Nat × Nat)}, 0 ≤ d → (∀ x ∈ L, d ≤ (x.1 : Int)) → deepTo f d L = d
  | [], _, _ => rfl
  | x :: xs, h, hx => by
    have h1 : ccomb f d x = d := by
      unfold ccomb
      rw [if_neg (fun h2 => by have := hx x (by simp); omega)]
    rw [deepTo, h1]
    exact deepTo_stay h fun y hy => hx y (by simp [hy])
theorem deepTo_first {f : Nat → Deed} : ∀ {L : List (Nat × Nat)} {i : Nat}, (∀ j (h : j < L.length), (L[j]).1 = i + j) → deepTo f (-1) L = deepAt f L
  | [], _, _ => rfl
  | x :: xs, i, h => by
    have h0 := h 0 (by simp)
    simp at h0
    have hr : ∀ j (hj : j < xs.length), (xs[j]).1 = i + 1 + j := fun j hj => by
      have := h (j + 1) (by simpa using hj)
      simp at this
      omega
    rw [deepTo, deepAt]
    by_cases hd : (f x.1).kind = 3 ∧ 60 ≤ x.2
    · have h1 : ccomb f (-1) x = (x.1 : Int) := by unfold ccomb; rw [if_pos ⟨hd.1, hd.2, .inl (by omega)⟩]
      rw [if_pos hd, h1]
      refine deepTo_stay (by omega) fun y hy => ?_
      obtain ⟨j, hj, rfl⟩ := List.getElem_of_mem hy
      have := hr j hj
      omega
    · have h1 : ccomb f (-1) x = -1 := by unfold ccomb; rw [if_neg (fun h2 => hd ⟨h2.1, h2.2.1⟩)]
      rw [if_neg hd, h1]
      exact deepTo_first hr
theorem listing_last {f : Nat → Deed} {n : Nat} (hn : 1 ≤ n) : ∃ o, listing f n = o ++ [(n - 1, 0)] := by
  obtain ⟨k, rfl⟩ : ∃ k, n = k + 1 := ⟨n - 1, by omega⟩
  exact ⟨_, rfl⟩
theorem listing_full {f : Nat → Deed} {n : Nat} (hn : 1 ≤ n) (h : ∀ j (hj : j < (listing f n).length), ((listing f n)[j]).1 = j) : (listing f n).length = n := by
  obtain ⟨o, ho⟩ := listing_last (f := f) hn
  have hl : (listing f n).length = o.length + 1 := by rw [ho]; simp
  have := h o.length (by omega)
  simp only [ho] at this
  simp at this
  omega
theorem new_no {f : Nat → Deed} {p k m : Nat} (hk : k < m) (h : nameNew f p (k + 1) = false) : nameNew f p m = false := by
  induction m with
  | zero => omega
  | succ j ih =>
    by_cases e : k = j
    · subst e; exact h
    · rw [nameNew, ih (by omega)]; rfl

structure FourZ (w : World) (b : Nat) (v0 v1 v2 v3 : Value) : Prop where
  c0 : w.cell? ⟨b, 0, none⟩ = some v0
  c1 : w.cell? ⟨b, 1, none⟩ = some v1
  c2 : w.cell? ⟨b, 2, none⟩ = some v2
  c3 : w.cell? ⟨b, 3, none⟩ = some v3
  z2 : w.frozen? ⟨b, 2, none⟩ = false
  z3 : w.frozen? ⟨b, 3, none⟩ = false
theorem four_box (w : World) (v0 v1 v2 v3 : Value) (t : TypeId) : FourZ (w.alloc (.cells #[v0, v1, v2, v3] t)).drew w.heap.size v0 v1 v2 v3 := ⟨by simp, by simp, by simp, by simp, by simp, by simp⟩
theorem sls_new {w : World} {b off n cap : Nat} : SLs w (((w.alloc (.cells #[.slice (some ⟨b, off, none⟩) n cap] 30)).alloc (.cells (zerosBool n) 4)).alloc (.cells #[.slice (some ⟨b, off, none⟩) n cap, .slice (some ⟨w.heap.size + 1, 0, none⟩) n n, .slice none 0 0, .int .i64 (-1)] 47)).drew (w.heap.size + 1 + 1 + 1) b off n cap (w.heap.size + 1 + 1) (w.heap.size + 1) (fun _ => false) (.slice none 0 0) [] (-1) := by
  have hz1 : (w.alloc (.cells #[.slice (some ⟨b, off, none⟩) n cap] 30)).heap.size = w.heap.size + 1 := by simp
  have hz2 : ((w.alloc (.cells #[.slice (some ⟨b, off, none⟩) n cap] 30)).alloc (.cells (zerosBool n) 4)).heap.size = w.heap.size + 1 + 1 := by simp
  have A := (((Below.refl w.heap.size w).alloc (Nat.le_refl _) (.cells #[.slice (some ⟨b, off, none⟩) n cap] 30)).alloc (by simp) (.cells (zerosBool n) 4)).alloc (by simp; omega) (.cells #[.slice (some ⟨b, off, none⟩) n cap, .slice (some ⟨w.heap.size + 1, 0, none⟩) n n, .slice none 0 0, .int .i64 (-1)] 47)
  have D : Below (w.heap.size + 1 + 1) ((w.alloc (.cells #[.slice (some ⟨b, off, none⟩) n cap] 30)).alloc (.cells (zerosBool n) 4)) (((w.alloc (.cells #[.slice (some ⟨b, off, none⟩) n cap] 30)).alloc (.cells (zerosBool n) 4)).alloc (.cells #[.slice (some ⟨b, off, none⟩) n cap, .slice (some ⟨w.heap.size + 1, 0, none⟩) n n, .slice none 0 0, .int .i64 (-1)] 47)).drew := ((Below.refl _ _).alloc (by omega) _).drew
  have hM := fun q hq => cell_M (w.alloc (.cells #[.slice (some ⟨b, off, none⟩) n cap] 30)) n q hq
  rw [hz1] at hM
  have hB := four_box ((w.alloc (.cells #[.slice (some ⟨b, off, none⟩) n cap] 30)).alloc (.cells (zerosBool n) 4)) (.slice (some ⟨b, off, none⟩) n cap) (.slice (some ⟨w.heap.size + 1, 0, none⟩) n n) (.slice none 0 0) (.int .i64 (-1)) 47
  rw [hz2] at hB
  refine ⟨hB.c0, hB.c1, ⟨hB.c2, hB.z2⟩, ⟨hB.c3, hB.z3⟩, fun q hq => ⟨(D.cell (p := ⟨w.heap.size + 1, q, none⟩) (Nat.lt_succ_self _)).trans (hM q hq).1, (D.frozen (p := ⟨w.heap.size + 1, q, none⟩) (Nat.lt_succ_self _)).trans (hM q hq).2⟩, World.ownsRow_nil _ _ _ _, A.drew, by omega, by omega, by omega, ?_⟩
  simp

end Go.Proofs.YtolpgafkojlkoabDoor.Vp
