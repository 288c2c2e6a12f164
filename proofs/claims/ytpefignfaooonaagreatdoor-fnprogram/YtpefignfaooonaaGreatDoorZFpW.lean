/-
  FnProgram: two programs compared; what is written, as lines.
-/
import Derived.Test.YtpefignfaooonaaGreatDoorZFpSt
import Derived.Test.YtpefignfaooonaaGreatDoorZFpWp
import Derived.Test.YtpefignfaooonaaGreatDoorZFpPure
import Derived.Test.YtpefignfaooonaaGreatDoorZPpProg
import Derived.Laws.StructEq
import Derived.BigQuiet
namespace Go.Proofs.YtpefignfaooonaaGreatDoor.Vp
open Go.RowKit

theorem eqlFault (x y x' y' : Int) (w : World) : (binOp .eql 26 (.agg #[.int .i64 x, .int .i64 y]) (.agg #[.int .i64 x', .int .i64 y'])).run Tryz.prog w = .ok (.bool (decide (x = x') && decide (y = y'))) w := by
  have hS : Tryz.prog.underlying 26 = some (.struct (Tryz.prog.fieldsOf 26)) := by kernel_rfl
  have hp : Tryz.prog.stoodInHeld 26 = false := by kernel_rfl
  rw [run_eql_struct, show (10000 : Nat) = 9999 + 1 from rfl, run_equalIn_agg w 9999 26 _ _ hS hp]
  simp only [Program.fieldsOf, Tryz.underlying26]
  go_simp
  by_cases h1 : x = x' <;> by_cases h2 : y = y' <;> simp [h1, h2]

theorem fI_eq {L : List I3} {k : Nat} (hk : k < L.length) : fI L k = ⟨L[k].1, ⟨L[k].2.1.toArray⟩, L[k].2.2⟩ := by
  have e : L.getD k (0, [], 0) = L[k] := by simp [hk]
  unfold fI
  rw [e]
theorem progTo_lines (L : List I3) : ∀ k, k ≤ L.length → progTo (fI L) k = linesB (L.take k) := by
  intro k
  induction k with
  | zero => intro _; rfl
  | succ k ih =>
    intro hk
    have hk' : k < L.length := by omega
    rw [progTo, ih (by omega), List.take_add_one, List.getElem?_eq_getElem hk', Option.toList_some, linesB_snoc, fI_eq hk']
theorem progTo_all (L : List I3) : progTo (fI L) L.length = linesB L := by
  rw [progTo_lines L L.length (Nat.le_refl _), List.take_length]
theorem allOk_of {L : List I3} (h : okTo (fI L) L.length = true) : AllOk L := by
  intro i hi
  obtain ⟨k, hk, rfl⟩ := List.getElem_of_mem hi
  have h1 := ok_at h hk
  rw [fI_eq hk] at h1
  simpa [ByteArray.size] using h1
theorem own_ir {w : World} {base : Nat} {v : Value} {L : List I3} (h : w.ownsRow base 41 3 v L.length (i3L L)) (hne : L ≠ []) : ∃ g c, v = .slice (some ⟨g, 0, none⟩) L.length c ∧ IR w base g c L := by
  have hp : 0 < L.length := List.length_pos_iff.2 hne
  have h' := h
  rcases h.2 with ⟨_, h0⟩ | ⟨g, cap, cur, hv, _⟩
  · omega
  · subst hv
    exact ⟨g, cap, rfl, h'⟩

end Go.Proofs.YtpefignfaooonaaGreatDoor.Vp
