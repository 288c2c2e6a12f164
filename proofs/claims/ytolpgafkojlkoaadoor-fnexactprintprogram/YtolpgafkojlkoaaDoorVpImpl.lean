/-
  impl.ValidProgram; eqInsS, eqProgram over two rows of the same instructions.
-/
import Derived.Test.YtolpgafkojlkoaaDoorVpTab
import Derived.Test.YtolpgafkojlkoaaDoorVpSpec
namespace Go.Proofs.YtolpgafkojlkoaaDoor.Vp
open Go.RowKit

theorem Tab.below {w w' : World} {B : Nat} (h : Tab w) (hb : Below B w w') (hB : 0 < B) : Tab w' :=
  ⟨Nat.lt_of_lt_of_le h.1 hb.size, fun k hk => ⟨(hb.cell (p := ⟨0, _, none⟩) hB).trans (h.2 k hk).1, (hb.cell (p := ⟨0, _, none⟩) hB).trans (h.2 k hk).2⟩⟩

set_option maxHeartbeats 1000000 in
theorem implValid_no (a : Option Addr) (n cap : Nat) (f : Nat → Ins) (w : World) (hn : n ≤ 1048576) (h : (n : Int) < 1 ∨ 200 < (n : Int)) :
    Calls Tryd.prog 26 #[.agg #[.slice a n cap]] w fun e w' => e = .returned (.bool (valid f n)) ∧ Below w.heap.size w w' := by
  have e : valid f n = false := by
    unfold valid
    rw [show decide (1 ≤ (n : Int) ∧ (n : Int) ≤ 200) = false by simp; omega, Bool.and_false]
  rw [e]
  clear e
  rcases h with h | h
  all_goals
    go_enter Tryd.func26, Tryd.ntmps26
    go_wp2
    go_ret
    exact ⟨rfl, (Below.refl _ _).alloc (Nat.le_refl _) _⟩

set_option maxHeartbeats 1000000 in
theorem implValid_row (b off n cap : Nat) (f : Nat → Ins) (w : World) (h1 : 1 ≤ (n : Int)) (h2 : (n : Int) ≤ 200) (hb : b < w.heap.size) (hf : ∀ i, i < n → AtIns w b off i (f i)) (hT : Tab w) :
    Calls Tryd.prog 26 #[.agg #[.slice (some ⟨b, off, none⟩) n cap]] w fun e w' => e = .returned (.bool (valid f n)) ∧ Below w.heap.size w w' := by
  have HF := hide hf
  have HT := hide hT
  have hT0 := hT.1
  have HV : Hid (valid f n = okTo f n) := by
    show valid f n = okTo f n
    unfold valid
    rw [show decide (1 ≤ (n : Int) ∧ (n : Int) ≤ 200) = true by simp; omega, Bool.and_true]
  clear hf hT
  go_enter Tryd.func26, Tryd.ntmps26
  go_wp2
  go_loopw [18] (fun i wr => ∃ k : Nat, k ≤ n ∧ i = .int .i64 k ∧ okTo f k = true ∧ Below w.heap.size w wr) (fun i _ => n - (intOf i).toNat)
  case atStart => exact ⟨0, by omega, rfl, rfl, (Below.refl _ _).alloc (Nat.le_refl _) _⟩
  case round =>
    obtain ⟨k, hk, rfl, hok, hB⟩ := hrel
    have HB := hide hB
    have HK := hide hok
    have hsz : w.heap.size ≤ wr.heap.size := hB.size
    clear hB hok
    by_cases hlt : k < n
    · obtain ⟨c0, c1, c2⟩ := (HF k hlt).below HB hb
      go_wp2_with fail
      refine (validIns_any _ _ _ _ (HT.below (HB.alloc hsz _) hT0)).mono ?_
      rintro e w' ⟨rfl, hB'⟩
      have HB' : Hid (Below w.heap.size w w') := (HB.alloc hsz _).trans (hB'.mono (by simp; omega))
      clear hB' c0 c1 c2
      cases hi : insOk (f k).op (f k).s.size (f k).n with
      | false =>
        have HI := hide hi
        clear hi
        go_wp2
        go_ret
        refine ⟨ret_bool ?_, HB'⟩
        rw [HV.out, okTo_false hlt HI.out]
      | true =>
        have HI := hide hi
        clear hi
        go_wp2
        exact ⟨⟨k + 1, by omega, by go_num, by simp [okTo, HK.out, HI.out], HB'⟩, by simp [intOf]; omega⟩
    · have e : k = n := by omega
      subst e
      go_wp2
      go_ret
      exact ⟨ret_bool (by rw [HV.out, HK.out]), HB.out⟩

theorem implValid_any (b off n cap : Nat) (f : Nat → Ins) (w : World) (hn : n ≤ 1048576) (hb : b < w.heap.size) (hf : ∀ i, i < n → AtIns w b off i (f i)) (hT : Tab w) :
    Calls Tryd.prog 26 #[.agg #[.slice (some ⟨b, off, none⟩) n cap]] w fun e w' => e = .returned (.bool (valid f n)) ∧ Below w.heap.size w w' := by
  by_cases h : (n : Int) < 1 ∨ 200 < (n : Int)
  · exact implValid_no _ n cap f w hn h
  · exact implValid_row b off n cap f w (by omega) (by omega) hb hf hT

end Go.Proofs.YtolpgafkojlkoaaDoor.Vp
