/-
  l1InsOk and validIns: the same test.
-/
import Derived.Test.YtolpgafkojlkoabDoorVpWord
namespace Go.Proofs.YtolpgafkojlkoabDoor.Vp
open Go.RowKit

def mostText (op : Int) : Int := if op = 1 then 2000 else 0
def mostN (op : Int) : Int := if op = 3 ∨ op = 4 ∨ op = 5 then 2000 else if op = 10 ∨ op = 11 then 200 else 0
def insOk (op : Int) (sz : Nat) (n : Int) : Bool := decide (1 ≤ op ∧ op ≤ 15 ∧ (sz : Int) ≤ mostText op ∧ 0 ≤ n ∧ n ≤ mostN op)


set_option maxHeartbeats 1000000 in
theorem l1InsOk_ne (op : Int) (s : ByteArray) (n : Int) (w : World) (hs : s.size ≤ maxLen) (hz : ¬ s.toList = []) (h0 : 0 < s.size) :
    Calls Tryd.prog 42 #[.agg #[.int .i64 op, .string s, .int .i64 n]] w fun e w' => e = .returned (.bool (insOk op s.size n)) ∧ Below w.heap.size w w' := by
  unfold maxLen at hs
  by_cases h : 1 ≤ op ∧ op ≤ 15
  · have hc : op = 1 ∨ op = 2 ∨ op = 3 ∨ op = 4 ∨ op = 5 ∨ op = 6 ∨ op = 7 ∨ op = 8 ∨ op = 9 ∨ op = 10 ∨ op = 11 ∨ op = 12 ∨ op = 13 ∨ op = 14 ∨ op = 15 := by omega
    clear h
    rcases hc with rfl | rfl | rfl | rfl | rfl | rfl | rfl | rfl | rfl | rfl | rfl | rfl | rfl | rfl | rfl
    all_goals
      go_enter Tryd.func42, Tryd.ntmps42
      go_wp2
      all_goals go_ret
      all_goals refine ⟨ret_bool ?_, (Below.refl _ _).alloc (Nat.le_refl _) _⟩
      all_goals (rw [Bool.eq_iff_iff]; generalize s.size = z at *; simp [insOk, mostText, mostN]; try omega)
  · rcases (show op < 1 ∨ 15 < op by omega) with h | h
    all_goals
      go_enter Tryd.func42, Tryd.ntmps42
      go_wp2
      go_ret
      refine ⟨ret_bool ?_, (Below.refl _ _).alloc (Nat.le_refl _) _⟩
      rw [Bool.eq_iff_iff]; simp [insOk]; omega

set_option maxHeartbeats 1000000 in
theorem l1InsOk_em (op : Int) (n : Int) (w : World) :
    Calls Tryd.prog 42 #[.agg #[.int .i64 op, .string ⟨#[]⟩, .int .i64 n]] w fun e w' => e = .returned (.bool (insOk op 0 n)) ∧ Below w.heap.size w w' := by
  by_cases h : 1 ≤ op ∧ op ≤ 15
  · have hc : op = 1 ∨ op = 2 ∨ op = 3 ∨ op = 4 ∨ op = 5 ∨ op = 6 ∨ op = 7 ∨ op = 8 ∨ op = 9 ∨ op = 10 ∨ op = 11 ∨ op = 12 ∨ op = 13 ∨ op = 14 ∨ op = 15 := by omega
    clear h
    rcases hc with rfl | rfl | rfl | rfl | rfl | rfl | rfl | rfl | rfl | rfl | rfl | rfl | rfl | rfl | rfl
    all_goals
      go_enter Tryd.func42, Tryd.ntmps42
      go_wp2
      all_goals go_ret
      all_goals refine ⟨ret_bool ?_, (Below.refl _ _).alloc (Nat.le_refl _) _⟩
      all_goals (rw [Bool.eq_iff_iff]; simp [insOk, mostText, mostN]; try omega)
  · rcases (show op < 1 ∨ 15 < op by omega) with h | h
    all_goals
      go_enter Tryd.func42, Tryd.ntmps42
      go_wp2
      go_ret
      refine ⟨ret_bool ?_, (Below.refl _ _).alloc (Nat.le_refl _) _⟩
      rw [Bool.eq_iff_iff]; simp [insOk]; omega

theorem l1InsOk_any (op : Int) (s : ByteArray) (n : Int) (w : World) (hs : s.size ≤ maxLen) :
    Calls Tryd.prog 42 #[.agg #[.int .i64 op, .string s, .int .i64 n]] w fun e w' => e = .returned (.bool (insOk op s.size n)) ∧ Below w.heap.size w w' := by
  by_cases h : s.size = 0
  · have e := empty_of_size h
    subst e
    exact l1InsOk_em op n w
  · exact l1InsOk_ne op s n w hs (toList_ne h) (by omega)

end Go.Proofs.YtolpgafkojlkoabDoor.Vp
