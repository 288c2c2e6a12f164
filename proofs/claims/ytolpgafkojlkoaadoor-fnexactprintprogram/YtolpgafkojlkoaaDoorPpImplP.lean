/-
  impl.printIns, impl.PrintProgram.
-/
import Derived.Test.YtolpgafkojlkoaaDoorPpImplQ
import Derived.Test.YtolpgafkojlkoaaDoorPpTabW
import Derived.Test.YtolpgafkojlkoaaDoorVpImpl
import Derived.Test.YtolpgafkojlkoaaDoorDItoa
namespace Go.Proofs.YtolpgafkojlkoaaDoor.Vp
open Go.RowKit

set_option maxRecDepth 100000 in
set_option maxHeartbeats 1000000 in
theorem printIns_text (k : Nat) (s : ByteArray) (n mt : Int) (wd : List UInt8) (w : World) (hs : s.size ≤ 2000) (h1 : (k : Int) ≤ 15) (hz : 0 < w.heap.size) (hwd : wd.length ≤ 6)
    (c0 : w.cell? ⟨0, k * 5, none⟩ = some (.string ⟨wd.toArray⟩)) (c1 : w.cell? ⟨0, k * 5 + 1, none⟩ = some (.int .i64 mt)) (hm : 0 < mt) :
    Calls Tryd.prog 66 #[.agg #[.int .i64 k, .string s, .int .i64 n]] w fun e w' => e = .returned (.string ⟨(wd ++ (32 :: quoteB s.data.toList)).toArray⟩) ∧ Below w.heap.size w w' := by
  have hq := quoteB_le s.data.toList
  have hl : s.data.toList.length = s.size := by simp
  rw [hl] at hq
  clear hl
  go_enter Tryd.func66, Tryd.ntmps66
  go_wp2_with (go_at_call 88; refine (quote_any _ _ hs).mono ?_; rintro e w' ⟨rfl, hB⟩)
  all_goals go_ret
  refine ⟨ret_str ?_, ((Below.refl _ _).alloc (Nat.le_refl _) _).trans (hB.mono (by simp))⟩
  apply ByteArray.ext
  simp

set_option maxRecDepth 100000 in
set_option maxHeartbeats 1000000 in
theorem printIns_num (k m : Nat) (s : ByteArray) (mn : Int) (wd : List UInt8) (w : World) (hmm : m ≤ 2000) (h1 : (k : Int) ≤ 15) (hz : 0 < w.heap.size) (hwd : wd.length ≤ 6) (hP : Pow w)
    (c0 : w.cell? ⟨0, k * 5, none⟩ = some (.string ⟨wd.toArray⟩)) (c1 : w.cell? ⟨0, k * 5 + 1, none⟩ = some (.int .i64 0)) (c2 : w.cell? ⟨0, k * 5 + 2, none⟩ = some (.int .i64 mn)) (hm : 0 < mn) :
    Calls Tryd.prog 66 #[.agg #[.int .i64 k, .string s, .int .i64 m]] w fun e w' => e = .returned (.string ⟨(wd ++ (32 :: Lib.decDigits m)).toArray⟩) ∧ Below w.heap.size w w' := by
  have hq := dec_len m hmm
  have HP := hide hP
  clear hP
  go_enter Tryd.func66, Tryd.ntmps66
  go_wp2_with fail
  have B0 := hide ((Below.refl _ _).alloc (Nat.le_refl w.heap.size) (.cells #[.int .i64 k, .string s, .int .i64 m] 93))
  refine (Tryd.strconv_Itoa (m : Int) (by omega) (by omega) _ (HP.out.below B0.out (Nat.le_refl _))).mono ?_
  rintro e w' ⟨rfl, j, os, hw⟩
  have hB : Below (w.heap.size + 1) (w.alloc (.cells #[.int .i64 k, .string s, .int .i64 m] 93)) w' := by
    rw [hw]
    exact below_of_heap (os := os) rfl rfl rfl rfl (by simp)
  have HB := hide hB
  clear hB hw
  rw [Lib.itoa_nonneg]
  go_wp2
  all_goals go_ret
  refine ⟨ret_str ?_, B0.out.trans (HB.out.mono (by omega))⟩
  apply ByteArray.ext
  simp

set_option maxRecDepth 100000 in
set_option maxHeartbeats 1000000 in
theorem printIns_bare (k : Nat) (s : ByteArray) (n : Int) (wd : List UInt8) (w : World) (h1 : (k : Int) ≤ 15) (hz : 0 < w.heap.size)
    (c0 : w.cell? ⟨0, k * 5, none⟩ = some (.string ⟨wd.toArray⟩)) (c1 : w.cell? ⟨0, k * 5 + 1, none⟩ = some (.int .i64 0)) (c2 : w.cell? ⟨0, k * 5 + 2, none⟩ = some (.int .i64 0)) :
    Calls Tryd.prog 66 #[.agg #[.int .i64 k, .string s, .int .i64 n]] w fun e w' => e = .returned (.string ⟨wd.toArray⟩) ∧ Below w.heap.size w w' := by
  go_enter Tryd.func66, Tryd.ntmps66
  go_wp2
  go_ret
  exact ⟨rfl, (Below.refl _ _).alloc (Nat.le_refl _) _⟩

theorem word_le : ∀ k : Nat, k < 16 → (word (k : Int)).length ≤ 6 := by
  intro k hk
  rcases (show k = 0 ∨ k = 1 ∨ k = 2 ∨ k = 3 ∨ k = 4 ∨ k = 5 ∨ k = 6 ∨ k = 7 ∨ k = 8 ∨ k = 9 ∨ k = 10 ∨ k = 11 ∨ k = 12 ∨ k = 13 ∨ k = 14 ∨ k = 15 by omega) with rfl | rfl | rfl | rfl | rfl | rfl | rfl | rfl | rfl | rfl | rfl | rfl | rfl | rfl | rfl | rfl
  all_goals decide

theorem printIns_any (op : Int) (s : ByteArray) (n : Int) (w : World) (h : insOk op s.size n = true) (hT : Tab w) (hW : TabW w) (hP : Pow w) :
    Calls Tryd.prog 66 #[.agg #[.int .i64 op, .string s, .int .i64 n]] w fun e w' => e = .returned (.string ⟨(lineB op s.data.toList n).toArray⟩) ∧ Below w.heap.size w w' := by
  obtain ⟨k, rfl⟩ : ∃ k : Nat, op = k := by
    rcases insOk_cases h with ⟨rfl, _⟩ | ⟨hop, _⟩ | ⟨hop, _⟩
    · exact ⟨1, rfl⟩
    · exact ⟨op.toNat, by omega⟩
    · exact ⟨op.toNat, by omega⟩
  have hk : k < 16 := by
    unfold insOk at h
    rw [decide_eq_true_eq] at h
    omega
  have c0 := hW k hk
  obtain ⟨c1, c2⟩ := hT.2 k hk
  rcases insOk_cases h with ⟨e1, hs, rfl⟩ | ⟨hop, rfl, m, rfl, hm⟩ | ⟨hop, rfl, rfl⟩
  · have e : lineB k s.data.toList 0 = word k ++ (32 :: quoteB s.data.toList) := by rw [e1]; rfl
    rw [e]
    exact printIns_text k s 0 _ _ w hs (by omega) hT.1 (word_le k hk) c0 c1 (by rw [e1]; decide)
  · have e : lineB k [] m = word k ++ (32 :: Lib.decDigits m) := by
      rcases hop with h | h | h | h | h <;> rw [h] <;> simp [lineB, kind]
    have t0 : mostText k = 0 := by rcases hop with h | h | h | h | h <;> rw [h] <;> decide
    have t1 : 0 < mostN k := by rcases hop with h | h | h | h | h <;> rw [h] <;> decide
    rw [show (⟨#[]⟩ : ByteArray).data.toList = [] from rfl, e]
    rw [t0] at c1
    exact printIns_num k m _ _ _ w hm (by omega) hT.1 (word_le k hk) hP c0 c1 c2 t1
  · have e : lineB k [] 0 = word k := by
      rcases hop with h | h | h | h | h | h | h | h | h <;> rw [h] <;> simp [lineB, kind]
    have t0 : mostText k = 0 := by rcases hop with h | h | h | h | h | h | h | h | h <;> rw [h] <;> decide
    have t1 : mostN k = 0 := by rcases hop with h | h | h | h | h | h | h | h | h <;> rw [h] <;> decide
    rw [show (⟨#[]⟩ : ByteArray).data.toList = [] from rfl, e]
    rw [t0] at c1
    rw [t1] at c2
    exact printIns_bare k _ 0 _ w (by omega) hT.1 c0 c1 c2

end Go.Proofs.YtolpgafkojlkoaaDoor.Vp
