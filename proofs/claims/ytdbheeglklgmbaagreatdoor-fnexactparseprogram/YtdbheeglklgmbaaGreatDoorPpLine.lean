/-
  l1Line: the line of a right instruction.
-/
import Derived.Test.YtdbheeglklgmbaaGreatDoorPpQuote
namespace Go.Proofs.YtdbheeglklgmbaaGreatDoor.Vp
open Go.RowKit

/-- The line of an instruction. -/
def lineB (op : Int) (s : List UInt8) (n : Int) : List UInt8 :=
  if kind op = 1 then word op ++ (32 :: quoteB s) else if kind op = 0 then word op else word op ++ (32 :: Lib.decDigits n.toNat)
theorem dec_len (n : Nat) (h : n ≤ 2000) : (Lib.decDigits n).length ≤ 21 := by rw [← Lib.itoa_nonneg]; exact Lib.itoa_length_le _ (by omega) (by omega)

set_option maxRecDepth 100000 in
set_option maxHeartbeats 1000000 in
theorem l1Line_lit (s : ByteArray) (w : World) (hs : s.size ≤ 2000) :
    Calls Tryz.prog 21 #[.agg #[.int .i64 1, .string s, .int .i64 0]] w fun e w' => e = .returned (.string ⟨(lineB 1 s.data.toList 0).toArray⟩) ∧ Below w.heap.size w w' := by
  have hq := quoteB_le s.data.toList
  have hl : s.data.toList.length = s.size := by simp
  rw [hl] at hq
  clear hl
  go_enter Tryz.func21, Tryz.ntmps21
  go_wp2_with (first | (go_at_call 29; refine (l1Quote_any _ _ hs).mono ?_; rintro e w' ⟨rfl, hB⟩) | go_in)
  all_goals go_ret
  refine ⟨ret_str ?_, ((Below.refl _ _).alloc (Nat.le_refl _) _).trans (hB.mono (by simp))⟩
  apply ByteArray.ext
  simp [lineB, kind, word]

set_option maxRecDepth 100000 in
set_option maxHeartbeats 2000000 in
theorem l1Line_num (op : Int) (m : Nat) (w : World) (hop : op = 3 ∨ op = 4 ∨ op = 5 ∨ op = 10 ∨ op = 11) (hm : m ≤ 2000) :
    Calls Tryz.prog 21 #[.agg #[.int .i64 op, .string ⟨#[]⟩, .int .i64 m]] w fun e w' => e = .returned (.string ⟨(lineB op [] m).toArray⟩) ∧ Below w.heap.size w w' := by
  have hq := dec_len m hm
  rcases hop with rfl | rfl | rfl | rfl | rfl
  all_goals
    go_enter Tryz.func21, Tryz.ntmps21
    go_wp2_with (first | (go_at_call 30; refine (l1Dec_any m (by omega) _).mono ?_; rintro e w' ⟨rfl, hB⟩) | go_in)
    all_goals go_ret
    refine ⟨ret_str ?_, ((Below.refl _ _).alloc (Nat.le_refl _) _).trans (hB.mono (by simp))⟩
    apply ByteArray.ext
    simp [lineB, kind, word]

set_option maxRecDepth 100000 in
set_option maxHeartbeats 2000000 in
theorem l1Line_bare (op : Int) (w : World) (hop : op = 2 ∨ op = 6 ∨ op = 7 ∨ op = 8 ∨ op = 9 ∨ op = 12 ∨ op = 13 ∨ op = 14 ∨ op = 15) :
    Calls Tryz.prog 21 #[.agg #[.int .i64 op, .string ⟨#[]⟩, .int .i64 0]] w fun e w' => e = .returned (.string ⟨(lineB op [] 0).toArray⟩) ∧ Below w.heap.size w w' := by
  rcases hop with rfl | rfl | rfl | rfl | rfl | rfl | rfl | rfl | rfl
  all_goals
    go_enter Tryz.func21, Tryz.ntmps21
    go_wp2
    go_ret
    exact ⟨rfl, (Below.refl _ _).alloc (Nat.le_refl _) _⟩

/-- The shapes of right instructions. -/
theorem insOk_cases {op : Int} {s : ByteArray} {n : Int} (h : insOk op s.size n = true) :
    (op = 1 ∧ s.size ≤ 2000 ∧ n = 0) ∨ ((op = 3 ∨ op = 4 ∨ op = 5 ∨ op = 10 ∨ op = 11) ∧ s = ⟨#[]⟩ ∧ ∃ m : Nat, n = m ∧ m ≤ 2000) ∨
    ((op = 2 ∨ op = 6 ∨ op = 7 ∨ op = 8 ∨ op = 9 ∨ op = 12 ∨ op = 13 ∨ op = 14 ∨ op = 15) ∧ s = ⟨#[]⟩ ∧ n = 0) := by
  unfold insOk at h
  rw [decide_eq_true_eq] at h
  obtain ⟨h1, h2, h3, h4, h5⟩ := h
  by_cases e1 : op = 1
  · subst e1
    simp [mostText, mostN] at h3 h5
    exact .inl ⟨rfl, by omega, by omega⟩
  · have hs : s.size = 0 := by simp only [mostText, if_neg e1] at h3; omega
    by_cases e2 : op = 3 ∨ op = 4 ∨ op = 5 ∨ op = 10 ∨ op = 11
    · obtain ⟨m, rfl⟩ := Int.eq_ofNat_of_zero_le h4
      refine .inr (.inl ⟨e2, empty_of_size hs, m, rfl, ?_⟩)
      unfold mostN at h5
      split at h5
      · omega
      · split at h5 <;> omega
    · refine .inr (.inr ⟨by omega, empty_of_size hs, ?_⟩)
      unfold mostN at h5
      rw [if_neg (by omega), if_neg (by omega)] at h5
      omega

theorem l1Line_any (op : Int) (s : ByteArray) (n : Int) (w : World) (h : insOk op s.size n = true) :
    Calls Tryz.prog 21 #[.agg #[.int .i64 op, .string s, .int .i64 n]] w fun e w' => e = .returned (.string ⟨(lineB op s.data.toList n).toArray⟩) ∧ Below w.heap.size w w' := by
  rcases insOk_cases h with ⟨rfl, hs, rfl⟩ | ⟨hop, rfl, m, rfl, hm⟩ | ⟨hop, rfl, rfl⟩
  · exact l1Line_lit s w hs
  · exact l1Line_num op m w hop hm
  · exact l1Line_bare op w hop

theorem lineB_le (op : Int) (s : ByteArray) (n : Int) (h : insOk op s.size n = true) : (lineB op s.data.toList n).length ≤ 6010 := by
  rcases insOk_cases h with ⟨rfl, hs, rfl⟩ | ⟨hop, rfl, m, rfl, hm⟩ | ⟨hop, rfl, rfl⟩
  · have hq := quoteB_le s.data.toList
    have hl : s.data.toList.length = s.size := by simp
    simp [lineB, kind, word]
    omega
  · have hq := dec_len m hm
    rcases hop with rfl | rfl | rfl | rfl | rfl <;> simp [lineB, kind, word] <;> omega
  · rcases hop with rfl | rfl | rfl | rfl | rfl | rfl | rfl | rfl | rfl <;> simp [lineB, kind, word]

end Go.Proofs.YtdbheeglklgmbaaGreatDoor.Vp
