/-
  validIns: the table's rows.
-/
import Derived.Test.YtolpgafkojlkoaaDoorVpOk
namespace Go.Proofs.YtolpgafkojlkoaaDoor.Vp
open Go.RowKit

set_option maxHeartbeats 400000 in
theorem validIns_a (k : Nat) (s : ByteArray) (n mt mn : Int) (w : World) (h1 : 1 ≤ (k : Int)) (h2 : (k : Int) ≤ 15)
    (hT : w.cell? ⟨0, k * 5 + 1, none⟩ = some (.int .i64 mt)) (hN : w.cell? ⟨0, k * 5 + 2, none⟩ = some (.int .i64 mn)) (hz : 0 < w.heap.size)
    (ht : (s.size : Int) ≤ mt) (hn : 0 ≤ n) :
    Calls Tryd.prog 62 #[.agg #[.int .i64 k, .string s, .int .i64 n]] w fun e w' => e = .returned (.bool (decide (n ≤ mn))) ∧ Below w.heap.size w w' := by
  go_enter Tryd.func62, Tryd.ntmps62
  go_wp2
  go_quiet (fail)
  go_wp2
  go_ret
  exact ⟨rfl, below_drewN ((Below.refl _ _).alloc (Nat.le_refl _) _) _⟩

set_option maxHeartbeats 400000 in
theorem validIns_b (k : Nat) (s : ByteArray) (n mt : Int) (w : World) (h1 : 1 ≤ (k : Int)) (h2 : (k : Int) ≤ 15)
    (hT : w.cell? ⟨0, k * 5 + 1, none⟩ = some (.int .i64 mt)) (hz : 0 < w.heap.size)
    (ht : (s.size : Int) ≤ mt) (hn : n < 0) :
    Calls Tryd.prog 62 #[.agg #[.int .i64 k, .string s, .int .i64 n]] w fun e w' => e = .returned (.bool false) ∧ Below w.heap.size w w' := by
  have hd : decide (0 ≤ n) = false := by simp; omega
  go_enter Tryd.func62, Tryd.ntmps62
  go_wp2
  go_quiet (fail)
  go_wp2
  go_ret
  exact ⟨rfl, below_drewN ((Below.refl _ _).alloc (Nat.le_refl _) _) _⟩

set_option maxHeartbeats 400000 in
theorem validIns_c (k : Nat) (s : ByteArray) (n mt : Int) (w : World) (h1 : 1 ≤ (k : Int)) (h2 : (k : Int) ≤ 15)
    (hT : w.cell? ⟨0, k * 5 + 1, none⟩ = some (.int .i64 mt)) (hz : 0 < w.heap.size)
    (ht : mt < (s.size : Int)) :
    Calls Tryd.prog 62 #[.agg #[.int .i64 k, .string s, .int .i64 n]] w fun e w' => e = .returned (.bool false) ∧ Below w.heap.size w w' := by
  have hd : decide ((s.size : Int) ≤ mt) = false := by simp; omega
  go_enter Tryd.func62, Tryd.ntmps62
  go_wp2
  go_quiet (fail)
  go_wp2
  go_ret
  exact ⟨rfl, below_drewN ((Below.refl _ _).alloc (Nat.le_refl _) _) _⟩

set_option maxHeartbeats 400000 in
theorem validIns_d (op : Int) (s : ByteArray) (n : Int) (w : World) (h : op < 1 ∨ 15 < op) :
    Calls Tryd.prog 62 #[.agg #[.int .i64 op, .string s, .int .i64 n]] w fun e w' => e = .returned (.bool false) ∧ Below w.heap.size w w' := by
  rcases h with h | h
  all_goals
    go_enter Tryd.func62, Tryd.ntmps62
    go_wp2
    go_ret
    exact ⟨rfl, (Below.refl _ _).alloc (Nat.le_refl _) _⟩

/-- The table, as far as it is read: the bounds of each operation's operands. -/
def Tab (w : World) : Prop := 0 < w.heap.size ∧ ∀ k : Nat, k < 16 → w.cell? ⟨0, k * 5 + 1, none⟩ = some (.int .i64 (mostText k)) ∧ w.cell? ⟨0, k * 5 + 2, none⟩ = some (.int .i64 (mostN k))

theorem validIns_any (op : Int) (s : ByteArray) (n : Int) (w : World) (hT : Tab w) :
    Calls Tryd.prog 62 #[.agg #[.int .i64 op, .string s, .int .i64 n]] w fun e w' => e = .returned (.bool (insOk op s.size n)) ∧ Below w.heap.size w w' := by
  by_cases h : 1 ≤ op ∧ op ≤ 15
  · obtain ⟨k, rfl⟩ := Int.eq_ofNat_of_zero_le (show 0 ≤ op by omega)
    obtain ⟨h1, h2⟩ := h
    obtain ⟨t1, t2⟩ := hT.2 k (by omega)
    by_cases ht : (s.size : Int) ≤ mostText k
    · by_cases hn : 0 ≤ n
      · have e : insOk (k : Int) s.size n = decide (n ≤ mostN k) := by
          unfold insOk
          rw [Bool.eq_iff_iff, decide_eq_true_eq, decide_eq_true_eq]
          exact ⟨fun h => h.2.2.2.2, fun h => ⟨h1, h2, ht, hn, h⟩⟩
        rw [e]
        exact validIns_a k s n _ _ w h1 h2 t1 t2 hT.1 ht hn
      · have e : insOk (k : Int) s.size n = false := by
          unfold insOk
          rw [decide_eq_false_iff_not]
          exact fun h => hn h.2.2.2.1
        rw [e]
        exact validIns_b k s n _ w h1 h2 t1 hT.1 ht (by omega)
    · have e : insOk (k : Int) s.size n = false := by
        unfold insOk
        rw [decide_eq_false_iff_not]
        exact fun h => ht h.2.2.1
      rw [e]
      exact validIns_c k s n _ w h1 h2 t1 hT.1 (by omega)
  · have e : insOk op s.size n = false := by
      unfold insOk
      rw [decide_eq_false_iff_not]
      exact fun g => h ⟨g.1, g.2.1⟩
    rw [e]
    exact validIns_d op s n w (by omega)

end Go.Proofs.YtolpgafkojlkoaaDoor.Vp
