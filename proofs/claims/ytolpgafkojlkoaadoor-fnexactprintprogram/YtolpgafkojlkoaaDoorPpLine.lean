/-
  l1Line: the line of a right instruction.
-/
import Derived.Test.YtolpgafkojlkoaaDoorPpQuote
namespace Go.Proofs.YtolpgafkojlkoaaDoor.Vp
open Go.RowKit

set_option maxRecDepth 100000 in
set_option maxHeartbeats 1000000 in
theorem l1Line_lit (s : ByteArray) (w : World) (hs : s.size ≤ 2000) :
    Calls Tryd.prog 64 #[.agg #[.int .i64 1, .string s, .int .i64 0]] w fun e w' => e = .returned (.string ⟨(lineB 1 s.data.toList 0).toArray⟩) ∧ Below w.heap.size w w' := by
  have hq := quoteB_le s.data.toList
  have hl : s.data.toList.length = s.size := by simp
  rw [hl] at hq
  clear hl
  go_enter Tryd.func64, Tryd.ntmps64
  go_wp2_with (first | (go_at_call 86; refine (l1Quote_any _ _ hs).mono ?_; rintro e w' ⟨rfl, hB⟩) | go_in)
  all_goals go_ret
  refine ⟨ret_str ?_, ((Below.refl _ _).alloc (Nat.le_refl _) _).trans (hB.mono (by simp))⟩
  apply ByteArray.ext
  simp [lineB, kind, word]

set_option maxRecDepth 100000 in
set_option maxHeartbeats 2000000 in
theorem l1Line_num (op : Int) (m : Nat) (w : World) (hop : op = 3 ∨ op = 4 ∨ op = 5 ∨ op = 10 ∨ op = 11) (hm : m ≤ 2000) :
    Calls Tryd.prog 64 #[.agg #[.int .i64 op, .string ⟨#[]⟩, .int .i64 m]] w fun e w' => e = .returned (.string ⟨(lineB op [] m).toArray⟩) ∧ Below w.heap.size w w' := by
  have hq := dec_len m hm
  rcases hop with rfl | rfl | rfl | rfl | rfl
  all_goals
    go_enter Tryd.func64, Tryd.ntmps64
    go_wp2_with (first | (go_at_call 31; refine (l1Dec_any m (by omega) _).mono ?_; rintro e w' ⟨rfl, hB⟩) | go_in)
    all_goals go_ret
    refine ⟨ret_str ?_, ((Below.refl _ _).alloc (Nat.le_refl _) _).trans (hB.mono (by simp))⟩
    apply ByteArray.ext
    simp [lineB, kind, word]

set_option maxRecDepth 100000 in
set_option maxHeartbeats 2000000 in
theorem l1Line_bare (op : Int) (w : World) (hop : op = 2 ∨ op = 6 ∨ op = 7 ∨ op = 8 ∨ op = 9 ∨ op = 12 ∨ op = 13 ∨ op = 14 ∨ op = 15) :
    Calls Tryd.prog 64 #[.agg #[.int .i64 op, .string ⟨#[]⟩, .int .i64 0]] w fun e w' => e = .returned (.string ⟨(lineB op [] 0).toArray⟩) ∧ Below w.heap.size w w' := by
  rcases hop with rfl | rfl | rfl | rfl | rfl | rfl | rfl | rfl | rfl
  all_goals
    go_enter Tryd.func64, Tryd.ntmps64
    go_wp2
    go_ret
    exact ⟨rfl, (Below.refl _ _).alloc (Nat.le_refl _) _⟩

theorem l1Line_any (op : Int) (s : ByteArray) (n : Int) (w : World) (h : insOk op s.size n = true) :
    Calls Tryd.prog 64 #[.agg #[.int .i64 op, .string s, .int .i64 n]] w fun e w' => e = .returned (.string ⟨(lineB op s.data.toList n).toArray⟩) ∧ Below w.heap.size w w' := by
  rcases insOk_cases h with ⟨rfl, hs, rfl⟩ | ⟨hop, rfl, m, rfl, hm⟩ | ⟨hop, rfl, rfl⟩
  · exact l1Line_lit s w hs
  · exact l1Line_num op m w hop hm
  · exact l1Line_bare op w hop

end Go.Proofs.YtolpgafkojlkoaaDoor.Vp
