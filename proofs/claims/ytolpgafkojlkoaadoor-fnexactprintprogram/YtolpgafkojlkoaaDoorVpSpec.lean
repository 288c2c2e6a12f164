/-
  The two ValidProgram: one answer.
-/
import Derived.Test.YtolpgafkojlkoaaDoorVpOk
namespace Go.Proofs.YtolpgafkojlkoaaDoor.Vp
open Go.RowKit

/-- The first k instructions are right. -/
def okTo (f : Nat → Ins) : Nat → Bool
  | 0 => true
  | k + 1 => okTo f k && insOk (f k).op (f k).s.size (f k).n
theorem okTo_mono {f : Nat → Ins} {k n : Nat} (h : k ≤ n) (hn : okTo f n = true) : okTo f k = true := by
  induction n with
  | zero => obtain rfl : k = 0 := by omega
            exact hn
  | succ m ih =>
    by_cases e : k = m + 1
    · subst e; exact hn
    · simp only [okTo, Bool.and_eq_true] at hn
      exact ih (by omega) hn.1
theorem okTo_false {f : Nat → Ins} {k n : Nat} (h : k < n) (hk : insOk (f k).op (f k).s.size (f k).n = false) : okTo f n = false := by
  cases e : okTo f n with
  | false => rfl
  | true =>
    have h2 := okTo_mono (show k + 1 ≤ n by omega) e
    simp [okTo, hk] at h2
def valid (f : Nat → Ins) (n : Nat) : Bool := okTo f n && decide (1 ≤ (n : Int) ∧ (n : Int) ≤ 200)

theorem valid_parts {f : Nat → Ins} {n : Nat} (h : valid f n = true) : okTo f n = true ∧ 1 ≤ (n : Int) ∧ (n : Int) ≤ 200 := by
  unfold valid at h
  rw [Bool.and_eq_true, decide_eq_true_eq] at h
  exact h
theorem ok_at {f : Nat → Ins} {k n : Nat} (h : okTo f n = true) (hk : k < n) : insOk (f k).op (f k).s.size (f k).n = true := by
  have := okTo_mono (show k + 1 ≤ n by omega) h
  simp only [okTo, Bool.and_eq_true] at this
  exact this.2

set_option maxHeartbeats 1000000 in
theorem specValid_row (b off n cap : Nat) (f : Nat → Ins) (w : World) (hn : n ≤ 1048576) (hb : b < w.heap.size) (hf : ∀ i, i < n → AtIns w b off i (f i)) (hs : ∀ i, i < n → (f i).s.size ≤ maxLen) :
    Calls Tryd.prog 24 #[.agg #[.slice (some ⟨b, off, none⟩) n cap]] w fun e w' => e = .returned (.bool (valid f n)) ∧ Below w.heap.size w w' := by
  have HF := hide hf
  have HS := hide hs
  clear hf hs
  go_enter Tryd.func24, Tryd.ntmps24
  go_wp2
  go_loopw [3] (fun i wr => ∃ k : Nat, k ≤ n ∧ i = .int .i64 k ∧ okTo f k = true ∧ Below (w.heap.size + 1) (w.alloc (.cells #[.slice (some ⟨b, off, none⟩) n cap] 57)) wr) (fun i _ => n - (intOf i).toNat)
  case atStart => exact ⟨0, by omega, rfl, rfl, Below.refl _ _⟩
  case round =>
    obtain ⟨k, hk, rfl, hok, hB⟩ := hrel
    have HB := hide hB
    have HK := hide hok
    have hc0 : wr.cell? ⟨w.heap.size, 0, none⟩ = some (.slice (some ⟨b, off, none⟩) n cap) := by
      rw [hB.cell (p := ⟨w.heap.size, 0, none⟩) (by simp)]; simp
    have HW : Hid (Below w.heap.size w wr) := ((Below.refl _ _).alloc (Nat.le_refl _) _).trans (hB.mono (by omega))
    have hsz : w.heap.size + 1 ≤ wr.heap.size := by have := hB.size; simpa using this
    clear hB hok
    by_cases hlt : k < n
    · obtain ⟨c0, c1, c2⟩ := (HF k hlt).below HW hb
      go_wp2_with fail
      refine (l1InsOk_any _ _ _ _ (HS k hlt)).mono ?_
      rintro e w' ⟨rfl, hB'⟩
      have HB' := hide hB'
      clear hB' c0 c1 c2 hc0
      cases hi : insOk (f k).op (f k).s.size (f k).n with
      | false =>
        have HI := hide hi
        clear hi
        go_wp2
        go_ret
        refine ⟨ret_bool ?_, HW.trans (HB'.mono HW.size)⟩
        simp [valid, okTo_false hlt HI.out]
      | true =>
        have HI := hide hi
        clear hi
        go_wp2
        exact ⟨⟨k + 1, by omega, by go_num, by simp [okTo, HK.out, HI.out], HB.trans (HB'.mono hsz)⟩, by simp [intOf]; omega⟩
    · have e : k = n := by omega
      subst e
      by_cases h1 : 1 ≤ (k : Int)
      all_goals
        go_wp2
        go_ret
        refine ⟨ret_bool ?_, HW⟩
        rw [Bool.eq_iff_iff]
        simp [valid, HK.out]
        try omega

end Go.Proofs.YtolpgafkojlkoaaDoor.Vp
